/- The tree's sort of places along a side. A tree's nodes in memory of their own. -/
import Derived.Test.YtbngdlbecdloiaaB28
import Derived.Test.YtbngdlbecdloiaaB13
import Derived.Deep.RegionHeld3
import Derived.Deep.DeepCutAuto
import Derived.Test.YtbngdlbecdloiaaB10
import Derived.Test.YtbngdlbecdloiaaB4
import Derived.Deep.AppendLies
set_option maxHeartbeats 16000000
set_option maxRecDepth 20000
namespace Go.Proofs.Ytbngdlbecdloiaa
open Go.RowKit
set_option linter.unusedVariables false
set_option linter.unusedSimpArgs false
/-- four numbers of a span in a block -/
structure Sp4 (w : World) (x : Nat) (a b c d : Int) : Prop where
  a0 : w.cell? ⟨x, 0, none⟩ = some (.int .i64 a)
  a1 : w.cell? ⟨x, 1, none⟩ = some (.int .i64 b)
  a2 : w.cell? ⟨x, 2, none⟩ = some (.int .i64 c)
  a3 : w.cell? ⟨x, 3, none⟩ = some (.int .i64 d)
def Bd (a : Int) : Prop := -4000000000 ≤ a ∧ a ≤ 4000000000
/-- what the sort along a side begins with, and keeps -/
structure Sal (tb : Nat) (w wc : World) (x : Nat) : Prop where
  bel : Below w.heap.size w wc
  box : wc.cell? ⟨w.heap.size, 0, none⟩ = some (.pointer (some ⟨tb, 0, none⟩))
  lt : w.heap.size < x
  sp : ∃ a b c d, Sp4 wc x a b c d ∧ Bd a ∧ Bd b ∧ Bd c ∧ Bd d
  fr : wc.frozen? ⟨x, 0, none⟩ = false ∧ wc.frozen? ⟨x, 1, none⟩ = false ∧ wc.frozen? ⟨x, 2, none⟩ = false ∧ wc.frozen? ⟨x, 3, none⟩ = false
theorem keepB {x : Nat} {w w' : World} {p : Addr} {v : Value} (hb : But x w w') (h : w.cell? p = some v) (hne : p.block ≠ x) : w'.cell? p = some v := (hb.cell (cell_lt h) hne).trans h
theorem keepc {w w' : World} {p : Addr} {v : Value} (hb : Below w.heap.size w w') (h : w.cell? p = some v) : w'.cell? p = some v := (hb.cell (cell_lt h)).trans h
set_option maxRecDepth 20000 in
set_option maxHeartbeats 1000000 in
theorem sortAlong_any (tb lb off n cap : Nat) (ai : Option Addr) (N ci : Nat) (U V : Nat → Int) (w : World) (h : Flat w ai (N * 5) U) (hR : Rwo w lb off n V) (hV : ∀ i, i < n → 0 ≤ V i ∧ V i < (N : Int)) (hlb : lb < w.heap.size) (hn : n ≤ 1000) (h1 : 1 ≤ n)
    (hF : ∀ wr, Trn lb off n w wr → Flat wr ai (N * 5) U) (hU : ∀ q, q < N * 5 → Bd (U q)) (c1 : w.cell? ⟨tb, 0, none⟩ = some (.slice ai N ci)) (hne : tb ≠ lb) :
    Calls Try.prog 74 #[.pointer (some ⟨tb, 0, none⟩), .slice (some ⟨lb, off, none⟩) n cap] w fun e w' => e = .returned (.tuple #[]) ∧ Srt lb off n V w w' := by
  have hset := cset_map
  have l1 := cell_lt c1
  obtain ⟨hV0, hV1⟩ := hV 0 (by omega)
  have hN : 0 < N := by omega
  obtain ⟨b, o, rfl, hbl, hc⟩ := h (by omega)
  have hni : (0 : Int) < (n : Int) := by omega
  have hnn : 0 < n := h1
  go_enter Try.func74, Try.ntmps74
  go_upto_region 1 with fail
  have hE : Below w.heap.size w (w.alloc (.cells #[.pointer (some ⟨tb, 0, none⟩)] 98)) := (Below.refl _ _).alloc (Nat.le_refl _) _
  have hx : (w.alloc (.cells #[.pointer (some ⟨tb, 0, none⟩)] 98)).cell? ⟨w.heap.size, 0, none⟩ = some (.pointer (some ⟨tb, 0, none⟩)) := by go_simp
  have hz : (w.alloc (.cells #[.pointer (some ⟨tb, 0, none⟩)] 98)).heap.size = w.heap.size + 1 := by simp
  generalize w.alloc (.cells #[.pointer (some ⟨tb, 0, none⟩)] 98) = w0 at hE hx hz ⊢
  go_cut [4] (fun v wc => ∃ x, v = .pointer (some ⟨x, 0, none⟩) ∧ Sal tb w wc x)
  case first =>
    obtain ⟨p, hp⟩ := Int.eq_ofNat_of_zero_le hV0
    have hpN : p < N := by omega
    have hpi : (p : Int) < (N : Int) := by omega
    have r0 := hR.cell 0 (by omega)
    rw [hp] at r0
    obtain ⟨k0, k1, k2, k3, k4⟩ := box_cells hc hpN
    have FF : ∀ w', Below w0.heap.size w0 w' → w'.cell? ⟨w.heap.size, 0, none⟩ = some (.pointer (some ⟨tb, 0, none⟩)) ∧ w'.cell? ⟨tb, 0, none⟩ = some (.slice (some ⟨b, o, none⟩) N ci) ∧ w'.cell? ⟨lb, off, none⟩ = some (.int .i64 (p : Int)) ∧ w'.cell? ⟨b, o + p * 5 + 1, none⟩ = some (.int .i64 (U (p * 5 + 1))) ∧ w'.cell? ⟨b, o + p * 5 + 1 + 1, none⟩ = some (.int .i64 (U (p * 5 + 2))) ∧ w'.cell? ⟨b, o + p * 5 + 1 + 2, none⟩ = some (.int .i64 (U (p * 5 + 3))) ∧ w'.cell? ⟨b, o + p * 5 + 1 + 3, none⟩ = some (.int .i64 (U (p * 5 + 4))) :=
      fun w' s => ⟨keepc s hx, keepc s (keepc hE c1), keepc s (keepc hE r0), keepc s (keepc hE k1), keepc s (keepc hE k2), keepc s (keepc hE k3), keepc s (keepc hE k4)⟩
    refine wp_region_held_drew (S := fun w' => Below w0.heap.size w0 w') (by kernel_rfl) ((Below.refl _ _).drew) (fun hHeld => ?_)
    refine tq 0 hHeld ?_ (hv := by (intro w' s; obtain ⟨q1, q2, q3, q4, q5, q6, q7⟩ := FF w' s; go_simp; (try with_reducible rfl)))
    refine tq 1 hHeld ?_
    refine tq 2 hHeld ?_
    refine tq 3 hHeld ?_ (hv := by (intro w' s; obtain ⟨q1, q2, q3, q4, q5, q6, q7⟩ := FF w' s; go_simp; (try with_reducible rfl)))
    refine tq 4 hHeld ?_
    refine tq 5 hHeld ?_
    refine tq 6 hHeld ?_ (hv := by (intro w' s; obtain ⟨q1, q2, q3, q4, q5, q6, q7⟩ := FF w' s; go_simp; (try with_reducible rfl)))
    refine tq 7 hHeld ?_
    refine tq 8 hHeld ?_
    refine tq 9 hHeld ?_ (hv := by (intro w' s; obtain ⟨q1, q2, q3, q4, q5, q6, q7⟩ := FF w' s; go_simp; (try with_reducible rfl)))
    refine wpAnyH_ready (rs := [10, 11]) (by kernel_rfl) (by simp) ?_
    refine AllReadyH.cons rfl (fun K hK => ?_) (AllReadyH.cons rfl (fun K hK => ?_) AllReadyH.nil)
    · (go_simp; (go_at_call 48; refine (spanOf_any _ _ _ _ _).mono ?_; rintro e w1 ⟨rfl, hb1⟩; obtain ⟨hc1, hf1⟩ := bcell hb1; have hz1 := hb1.size; (try simp only [World.size_drew, World.size_alloc, World.size_setCell] at hc1 hf1 hz1); (try have hc2 := fun o => hc1 (w.heap.size + 1) o (by omega)); (try have hf2 := fun o => hf1 (w.heap.size + 1) o (by omega)); clear hc1 hf1); (try go_wp2_with fail); refine tr hK (fun hHeld => ?_) (hHeld.trans (hb1.mono hHeld.size)); clear hK K)
      refine tc 11 fun K hK => ?_
      (go_simp; refine tr hK (fun hHeld => ?_) (hHeld.alloc hHeld.size _); clear hK K)
      refine tc 12 fun K hK => ?_
      (go_simp; refine tr hK (fun hHeld => ?_) bel_a; clear hK K)
      refine wpAnyH_done (by kernel_rfl) ?_ _
      go_wp2_with fail
      go_meet
      exact ⟨_, rfl, ⟨hE.trans (hHeld.mono (by omega)), keepc hHeld hx, (by omega), ⟨U (p * 5 + 1), U (p * 5 + 2), U (p * 5 + 3), U (p * 5 + 4), ⟨by go_simp, by go_simp, by go_simp, by go_simp⟩, hU _ (by omega), hU _ (by omega), hU _ (by omega), hU _ (by omega)⟩, ⟨by go_simp, by go_simp, by go_simp, by go_simp⟩⟩⟩
    · (go_simp; refine tr hK (fun hHeld => ?_) (hHeld.alloc hHeld.size _); clear hK K)
      refine tc 10 fun K hK => ?_
      (go_simp; (go_at_call 48; refine (spanOf_any _ _ _ _ _).mono ?_; rintro e w1 ⟨rfl, hb1⟩; obtain ⟨hc1, hf1⟩ := bcell hb1; have hz1 := hb1.size; (try simp only [World.size_drew, World.size_alloc, World.size_setCell] at hc1 hf1 hz1); (try have hc2 := fun o => hc1 (w.heap.size + 1) o (by omega)); (try have hf2 := fun o => hf1 (w.heap.size + 1) o (by omega)); clear hc1 hf1); (try go_wp2_with fail); refine tr hK (fun hHeld => ?_) (hHeld.trans (hb1.mono hHeld.size)); clear hK K)
      refine tc 12 fun K hK => ?_
      (go_simp; refine tr hK (fun hHeld => ?_) bel_a; clear hK K)
      refine wpAnyH_done (by kernel_rfl) ?_ _
      go_wp2_with fail
      go_meet
      exact ⟨_, rfl, ⟨hE.trans (hHeld.mono (by omega)), keepc hHeld hx, (by omega), ⟨U (p * 5 + 1), U (p * 5 + 2), U (p * 5 + 3), U (p * 5 + 4), ⟨by go_simp, by go_simp, by go_simp, by go_simp⟩, hU _ (by omega), hU _ (by omega), hU _ (by omega), hU _ (by omega)⟩, ⟨by go_simp, by go_simp, by go_simp, by go_simp⟩⟩⟩
  case rest =>
  clear hx
  obtain ⟨x, rfl, hS⟩ := hcut
  clear hE hz
  go_wp2
  go_loopg [23] n (fun g vi wr => ∃ k : Nat, k ≤ n ∧ n - k ≤ g ∧ vi = .int .i64 (k : Int) ∧ Sal tb w wr x)
  case atStart => exact ⟨0, by omega, by omega, rfl, hS⟩
  case round =>
    clear hS
    obtain ⟨k, hk, hg, rfl, hS⟩ := hrel
    by_cases hlt : k < n
    · have hlt1 : (k : Int) < (n : Int) := by omega
      obtain ⟨hp0, hp1⟩ := hV k hlt
      obtain ⟨p, hp⟩ := Int.eq_ofNat_of_zero_le hp0
      have hpN : p < N := by omega
      have hpi : (p : Int) < (N : Int) := by omega
      have r0 := (hR.below hlb hS.bel).cell k hlt
      rw [hp] at r0
      obtain ⟨k0, k1, k2, k3, k4⟩ := box_cells hc hpN
      obtain ⟨sa, sb, sc, sd, ⟨s0, s1, s2, s3⟩, ba, bb, bc, bd⟩ := hS.sp
      obtain ⟨f0, f1, f2, f3⟩ := hS.fr
      have hxl := cell_lt s0
      simp only at hxl
      have hwx := hS.lt
      have hbx := hS.box
      have FF : ∀ w', But x wr w' → w'.cell? ⟨w.heap.size, 0, none⟩ = some (.pointer (some ⟨tb, 0, none⟩)) ∧ w'.cell? ⟨tb, 0, none⟩ = some (.slice (some ⟨b, o, none⟩) N ci) ∧ w'.cell? ⟨b, o + p * 5 + 1, none⟩ = some (.int .i64 (U (p * 5 + 1))) ∧ w'.cell? ⟨b, o + p * 5 + 1 + 1, none⟩ = some (.int .i64 (U (p * 5 + 2))) ∧ w'.cell? ⟨b, o + p * 5 + 1 + 2, none⟩ = some (.int .i64 (U (p * 5 + 3))) ∧ w'.cell? ⟨b, o + p * 5 + 1 + 3, none⟩ = some (.int .i64 (U (p * 5 + 4))) :=
        fun w' s => ⟨keepB s hS.box (by simp only; omega), keepB s (keepc hS.bel c1) (by simp only; omega), keepB s (keepc hS.bel k1) (by simp only; omega), keepB s (keepc hS.bel k2) (by simp only; omega), keepB s (keepc hS.bel k3) (by simp only; omega), keepB s (keepc hS.bel k4) (by simp only; omega)⟩
      go_upto_region 5 with fail
      refine wp_region_held_drew (S := fun w' => But x wr w') (by kernel_rfl) ((But.refl _ _).drew) (fun hHeld => ?_)
      refine tq 1 hHeld ?_ (hv := by (intro w' s; obtain ⟨q1, q2, q3, q4, q5, q6⟩ := FF w' s; go_simp; (try with_reducible rfl)))
      refine tq 2 hHeld ?_
      refine tq 3 hHeld ?_
      refine tq 4 hHeld ?_ (hv := by (intro w' s; obtain ⟨q1, q2, q3, q4, q5, q6⟩ := FF w' s; go_simp; (try with_reducible rfl)))
      refine tq 5 hHeld ?_
      refine tq 6 hHeld ?_
      refine tq 7 hHeld ?_
      refine tq 8 hHeld ?_ (hv := by (intro w' s; obtain ⟨q1, q2, q3, q4, q5, q6⟩ := FF w' s; go_simp; (try with_reducible rfl)))
      refine wpAnyH_ready (rs := [0, 9]) (by kernel_rfl) (by simp) ?_
      refine AllReadyH.cons rfl (fun K hK => ?_) (AllReadyH.cons rfl (fun K hK => ?_) AllReadyH.nil)
      · (go_simp; refine tr hK (fun hHeld => ?_) hHeld; clear hK K)
        refine tc 9 fun K hK => ?_
        (go_simp; (go_at_call 48; refine (spanOf_any _ _ _ _ _).mono ?_; rintro e w1 ⟨rfl, hb1⟩; obtain ⟨hc1, hf1⟩ := bcell hb1; have hz1 := hb1.size; (try simp only [World.size_drew, World.size_alloc, World.size_setCell] at hc1 hf1 hz1); have hc2 := fun o => hc1 x o (by omega); have hf2 := fun o => hf1 x o (by omega); have hz2 : x < w1.heap.size := (by omega); clear hc1 hf1); (try go_wp2_with fail); refine tr hK (fun hHeld => ?_) (hHeld.trans (But.of_below hb1)); clear hK K)
        refine tc 10 fun K hK => ?_
        (go_simp; (go_at_call 54; refine (spanBoth_any _ _ _ _ _ _ _ _ _).mono ?_; rintro e w2 ⟨rfl, hb2⟩; obtain ⟨hc3, hf3⟩ := bcell hb2; have hz3 := hb2.size; (try simp only [World.size_drew, World.size_alloc, World.size_setCell] at hc3 hf3 hz3); have hc4 := fun o => hc3 x o (by omega); have hf4 := fun o => hf3 x o (by omega); clear hc3 hf3); (try go_wp2_with fail); refine tr hK (fun hHeld => ?_) (hHeld.trans (But.of_below hb2)); clear hK K)
        refine tc 11 fun K hK => ?_
        (go_simp; refine tr hK (fun hHeld => ?_) ((((hHeld.setCell rfl _).setCell rfl _).setCell rfl _).setCell rfl _); clear hK K)
        refine wpAnyH_done (by kernel_rfl) ?_ _
        go_wp2_with fail
        go_roundg (n - k - 1)
        case measure => omega
        case rel => exact ⟨k + 1, by omega, by omega, by go_num, ⟨hS.bel.trans (hHeld.below (Nat.le_of_lt hwx) (by omega)), keepB hHeld hbx (by show w.heap.size ≠ x; omega), hwx, ⟨mn sa (U (p * 5 + 1)), mn sb (U (p * 5 + 2)), mx sc (U (p * 5 + 3)), mx sd (U (p * 5 + 4)), ⟨by go_simp, by go_simp, by go_simp, by go_simp⟩, mn_bd ba (hU _ (by omega)), mn_bd bb (hU _ (by omega)), mx_bd bc (hU _ (by omega)), mx_bd bd (hU _ (by omega))⟩, ⟨by go_simp, by go_simp, by go_simp, by go_simp⟩⟩⟩
      · (go_simp; (go_at_call 48; refine (spanOf_any _ _ _ _ _).mono ?_; rintro e w1 ⟨rfl, hb1⟩; obtain ⟨hc1, hf1⟩ := bcell hb1; have hz1 := hb1.size; (try simp only [World.size_drew, World.size_alloc, World.size_setCell] at hc1 hf1 hz1); have hc2 := fun o => hc1 x o (by omega); have hf2 := fun o => hf1 x o (by omega); have hz2 : x < w1.heap.size := (by omega); clear hc1 hf1); (try go_wp2_with fail); refine tr hK (fun hHeld => ?_) (hHeld.trans (But.of_below hb1)); clear hK K)
        refine tc 0 fun K hK => ?_
        (go_simp; refine tr hK (fun hHeld => ?_) hHeld; clear hK K)
        refine tc 10 fun K hK => ?_
        (go_simp; (go_at_call 54; refine (spanBoth_any _ _ _ _ _ _ _ _ _).mono ?_; rintro e w2 ⟨rfl, hb2⟩; obtain ⟨hc3, hf3⟩ := bcell hb2; have hz3 := hb2.size; (try simp only [World.size_drew, World.size_alloc, World.size_setCell] at hc3 hf3 hz3); have hc4 := fun o => hc3 x o (by omega); have hf4 := fun o => hf3 x o (by omega); clear hc3 hf3); (try go_wp2_with fail); refine tr hK (fun hHeld => ?_) (hHeld.trans (But.of_below hb2)); clear hK K)
        refine tc 11 fun K hK => ?_
        (go_simp; refine tr hK (fun hHeld => ?_) ((((hHeld.setCell rfl _).setCell rfl _).setCell rfl _).setCell rfl _); clear hK K)
        refine wpAnyH_done (by kernel_rfl) ?_ _
        go_wp2_with fail
        go_roundg (n - k - 1)
        case measure => omega
        case rel => exact ⟨k + 1, by omega, by omega, by go_num, ⟨hS.bel.trans (hHeld.below (Nat.le_of_lt hwx) (by omega)), keepB hHeld hbx (by show w.heap.size ≠ x; omega), hwx, ⟨mn sa (U (p * 5 + 1)), mn sb (U (p * 5 + 2)), mx sc (U (p * 5 + 3)), mx sd (U (p * 5 + 4)), ⟨by go_simp, by go_simp, by go_simp, by go_simp⟩, mn_bd ba (hU _ (by omega)), mn_bd bb (hU _ (by omega)), mx_bd bc (hU _ (by omega)), mx_bd bd (hU _ (by omega))⟩, ⟨by go_simp, by go_simp, by go_simp, by go_simp⟩⟩⟩
    · have hlt1 : ¬ ((k : Int) < (n : Int)) := by omega
      obtain ⟨sa, sb, sc, sd, ⟨s0, s1, s2, s3⟩, ba, bb, bc, bd⟩ := hS.sp
      have hxl := cell_lt s0
      simp only at hxl
      have hwx := hS.lt
      have hbx := hS.box
      go_upto_region 7 with fail
      go_cut [7, 8] (fun u v wc => ∃ y z l0 l1, u = .pointer (some ⟨y, 0, none⟩) ∧ v = .pointer (some ⟨z, 0, none⟩) ∧ w.heap.size < z ∧ Below w.heap.size w wc ∧ wc.cell? ⟨w.heap.size, 0, none⟩ = some (.pointer (some ⟨tb, 0, none⟩)) ∧ wc.cell? ⟨y, 0, none⟩ = some (.int .i64 l0) ∧ wc.cell? ⟨y, 1, none⟩ = some (.int .i64 l1) ∧ wc.cell? ⟨z, 0, none⟩ = some (.int .i64 0) ∧ wc.frozen? ⟨z, 0, none⟩ = false)
      case first =>
        have hbel := hS.bel
        go_wp2_with fail
        refine (less_any _ _ _ _ _ bc bd ba bb).mono ?_; rintro e w1 ⟨rfl, hb1⟩; obtain ⟨hc1, hf1⟩ := bcell hb1; have hz1 := hb1.size; (try simp only [World.size_drew, World.size_alloc, World.size_setCell] at hc1 hf1 hz1); have hc2 := fun o => hc1 w.heap.size o (by omega); have hz2 : w.heap.size < w1.heap.size := (by omega); clear hc1 hf1
        go_wp2_with fail
        go_meet
        exact ⟨_, _, sc - sa, sd - sb, rfl, rfl, by omega, hbel.trans bel_a, by go_simp, by go_simp, by go_simp, by go_simp, by go_simp⟩
      case rest =>
      clear hS hbx hwx hxl s0 s1 s2 s3
      obtain ⟨y, z, e0, e1, rfl, rfl, hzl, hB, hbx, y0, y1, z0, zf⟩ := hcut
      go_upto_if 48 with fail
      go_cut [] (fun wc => ∃ s : Int, (s = 0 ∨ s = 1) ∧ Below w.heap.size w wc ∧ wc.cell? ⟨w.heap.size, 0, none⟩ = some (.pointer (some ⟨tb, 0, none⟩)) ∧ wc.cell? ⟨z, 0, none⟩ = some (.int .i64 s))
      case first =>
        by_cases hl : e0 < e1
        · go_wp2_with fail
          go_meet
          exact ⟨1, .inr rfl, hB.setCell (by simp only; omega) _, by rw [cset_other (by intro q; injection q with q1 q2; omega)]; exact hbx, by go_simp⟩
        · go_wp2_with fail
          go_meet
          exact ⟨0, .inl rfl, hB, hbx, z0⟩
      case rest =>
      clear hB hbx y0 y1 z0 zf
      obtain ⟨s, hs, hB, hbx, z0⟩ := hcut
      have zl := cell_lt z0
      simp only at zl
      have lw : w.heap.size < wc.heap.size := by have := hB.size; omega
      have hst : ∀ w', (store ⟨wc.heap.size, 0, none⟩ (.func (.func 80) #[] #[.pointer (some ⟨w.heap.size, 0, none⟩), .pointer (some ⟨z, 0, none⟩)])).run Try.prog w' = stored Try.prog w' ⟨wc.heap.size, 0, none⟩ (.func (.func 80) #[] #[.pointer (some ⟨w.heap.size, 0, none⟩), .pointer (some ⟨z, 0, none⟩)]) .plain := fun w' => run_store _ _ _ _ _ rfl
      go_upto_region 11 with fail
      have hE : Below wc.heap.size wc (wc.alloc (.cells #[.func (.func 80) #[] #[.pointer (some ⟨w.heap.size, 0, none⟩), .pointer (some ⟨z, 0, none⟩)]] 113)) := (Below.refl _ _).alloc (Nat.le_refl _) _
      have hfb : (wc.alloc (.cells #[.func (.func 80) #[] #[.pointer (some ⟨w.heap.size, 0, none⟩), .pointer (some ⟨z, 0, none⟩)]] 113)).cell? ⟨wc.heap.size, 0, none⟩ = some (.func (.func 80) #[] #[.pointer (some ⟨w.heap.size, 0, none⟩), .pointer (some ⟨z, 0, none⟩)]) := by go_simp
      generalize wc.alloc (.cells #[.func (.func 80) #[] #[.pointer (some ⟨w.heap.size, 0, none⟩), .pointer (some ⟨z, 0, none⟩)]] 113) = w9 at hE hfb ⊢
      have hB9 := hB.trans (hE.mono (Nat.le_of_lt lw))
      have hT9 : Trn lb off n w w9 := (Trn.refl lb off n w).below hlb hB9
      have hCm : Cmp lb off n (N : Int) (.pointer (some ⟨wc.heap.size, 0, none⟩)) w9 := cmp_of lb off n wc.heap.size w.heap.size tb z (some ⟨b, o, none⟩) N ci U s hs w9 (fun wr hr => hF wr (hT9.trans hr)) (by omega) hne (by omega) (by omega) (keepc hE hbx) (keepc hB9 c1) (keepc hE z0) hfb
      go_wp2_with fail
      refine (sortStable_any lb off n cap (N : Int) _ V _ (hR.below hlb hB9) hV hCm (hT9.lt hlb) hn).mono ?_; rintro e w2 ⟨rfl, hS2⟩
      go_wp2_with fail
      go_end0
      exact ⟨rfl, Srt.trans hT9 (Sw.refl _ _) hS2⟩
end Go.Proofs.Ytbngdlbecdloiaa
namespace Go.Proofs.Ytbngdlbecdloiaa
open Go.RowKit
set_option linter.unusedVariables false
set_option linter.unusedSimpArgs false
def nd8 (D : Nat → Int) (q : Nat) : List Value := [.int .i64 (D (q * 8)), .int .i64 (D (q * 8 + 1)), .int .i64 (D (q * 8 + 2)), .int .i64 (D (q * 8 + 3)), .bool (decide (D (q * 8 + 4) = 1)), .int .i64 (D (q * 8 + 5)), .int .i64 (D (q * 8 + 6)), .int .i64 (D (q * 8 + 7))]
def nds (D : Nat → Int) : Nat → List Value
  | 0 => []
  | m + 1 => nds D m ++ nd8 D m
theorem nds_len (D : Nat → Int) : ∀ m, (nds D m).length = m * 8
  | 0 => rfl
  | m + 1 => by rw [nds, List.length_append, nds_len D m]; show m * 8 + 8 = _; omega
theorem nds_get (D : Nat → Int) : ∀ (m q i : Nat), q < m → i < 8 → (nds D m)[q * 8 + i]? = (nd8 D q)[i]?
  | 0, q, i, h, _ => absurd h (Nat.not_lt_zero _)
  | m + 1, q, i, h, hi => by
    rw [nds]
    by_cases e : q = m
    · subst e
      rw [List.getElem?_append_right (by rw [nds_len]; omega), nds_len, Nat.add_sub_cancel_left]
    · rw [List.getElem?_append_left (by rw [nds_len]; omega)]
      exact nds_get D m q i (by omega) hi
theorem nds_congr {D E : Nat → Int} : ∀ m, (∀ q, q < m * 8 → D q = E q) → nds D m = nds E m
  | 0, _ => rfl
  | m + 1, h => by
    rw [nds, nds, nds_congr m (fun q hq => h q (by omega))]
    unfold nd8
    rw [h (m * 8) (by omega), h (m * 8 + 1) (by omega), h (m * 8 + 2) (by omega), h (m * 8 + 3) (by omega), h (m * 8 + 4) (by omega), h (m * 8 + 5) (by omega), h (m * 8 + 6) (by omega), h (m * 8 + 7) (by omega)]
def NL (w : World) (base : Nat) (v : Value) (D : Nat → Int) (m : Nat) : Prop := w.ownsRow base 100 8 v m (nds D m)
theorem NL.nil (w : World) (base : Nat) (D : Nat → Int) : NL w base (.slice none 0 0) D 0 := World.ownsRow_nil w base _ _
theorem NL.lt {w : World} {base m : Nat} {v : Value} {D : Nat → Int} (h : NL w base v D m) : ∀ b, v.ownBlock = some b → base ≤ b ∧ b < w.heap.size := World.ownsRow.lt h
theorem NL.keep {w w' : World} {base m : Nat} {v : Value} {D : Nat → Int} (h : NL w base v D m) (hs : ∀ g, v.ownBlock = some g → w'.heap[g]? = w.heap[g]?) : NL w' base v D m := by
  refine ⟨h.1, ?_⟩
  rcases h.2 with q | ⟨g, cap, cur, hv, hb, hg, rest⟩
  · exact .inl q
  · exact .inr ⟨g, cap, cur, hv, hb, (hs g (by rw [hv]; rfl)).trans hg, rest⟩
theorem NL.congr {w : World} {base m : Nat} {v : Value} {D E : Nat → Int} (h : NL w base v D m) (e : ∀ q, q < m * 8 → D q = E q) : NL w base v E m := by
  unfold NL; rw [← nds_congr m e]; exact h
theorem NL.is {w : World} {base m : Nat} {v : Value} {D : Nat → Int} (h : NL w base v D m) : (m = 0 ∧ v = .slice none 0 0) ∨ ∃ g c, v = .slice (some ⟨g, 0, none⟩) m c := by
  rcases h.2 with ⟨hv, e⟩ | ⟨g, cap, cur, hv, _⟩
  · exact .inl ⟨e, hv⟩
  · exact .inr ⟨_, _, hv⟩
theorem NL.cells {w : World} {base g m c : Nat} {D : Nat → Int} (h : NL w base (.slice (some ⟨g, 0, none⟩) m c) D m) {q : Nat} (hq : q < m) :
    w.cell? ⟨g, q * 8, none⟩ = some (.int .i64 (D (q * 8))) ∧ w.cell? ⟨g, q * 8 + 1, none⟩ = some (.int .i64 (D (q * 8 + 1))) ∧ w.cell? ⟨g, q * 8 + 2, none⟩ = some (.int .i64 (D (q * 8 + 2))) ∧ w.cell? ⟨g, q * 8 + 3, none⟩ = some (.int .i64 (D (q * 8 + 3))) ∧ w.cell? ⟨g, q * 8 + 4, none⟩ = some (.bool (decide (D (q * 8 + 4) = 1))) ∧ w.cell? ⟨g, q * 8 + 5, none⟩ = some (.int .i64 (D (q * 8 + 5))) ∧ w.cell? ⟨g, q * 8 + 6, none⟩ = some (.int .i64 (D (q * 8 + 6))) ∧ w.cell? ⟨g, q * 8 + 7, none⟩ = some (.int .i64 (D (q * 8 + 7))) := by
  have k := fun i (hi : i < 8) => (World.ownsRow.cellAt h (q * 8 + i) (by omega)).trans (nds_get D m q i hq hi)
  exact ⟨k 0 (by omega), k 1 (by omega), k 2 (by omega), k 3 (by omega), k 4 (by omega), k 5 (by omega), k 6 (by omega), k 7 (by omega)⟩
abbrev zcNode : Value := .agg #[.int .i64 0, .int .i64 0, .int .i64 0, .int .i64 0, .bool false, .int .i64 0, .int .i64 0, .int .i64 0]
theorem infoNode : (Try.prog.info? 100).map (fun i => (i.zero, i.size, i.bytes)) = some (some zcNode, 8, 64) := by kernel_rfl
theorem step_napp {ops : Array Oper} {o : Oper} {a : Act} {K : Act → World → Prop} {Q : Exit → Act → World → Prop} {E : Prop} {w : World} (hgd : o.guard = none) (s x : Operand) (t : TypeId)
    (ho : o.op = .call { callee := .builtin .append, args := #[s, x], argTypes := #[t, t] })
    (ht : Try.prog.underlying t = some (.slice 100))
    (base : Nat) (v : Value) (D : Nat → Int) (m : Nat) (hs : a.eval s = v) (h : NL w base v D m) (b : Nat) (hx : a.eval x = .slice (some ⟨b, 0, none⟩) 1 1)
    (hn : ∀ i, i < 8 → w.cell? ⟨b, i, none⟩ = (nd8 D m)[i]?) (hm : m ≤ 1000) (hbase : base ≤ w.heap.size)
    (hK : ∀ g' c' w', NL w' base (.slice (some ⟨g', 0, none⟩) (m + 1) c') D (m + 1) → w.grownBy w' v.ownBlock → K (a.put o.dst (.slice (some ⟨g', 0, none⟩) (m + 1) c')) w') :
    if Region.wanted o (yielded ops a.tmps) = true then Oper.wp Try.prog o a w K Q else E := by
  obtain ⟨i, hi, hzz⟩ := Option.map_eq_some_iff.1 infoNode
  simp only [Prod.mk.injEq] at hzz
  obtain ⟨hz, hsz, hb8⟩ := hzz
  refine step_append_lies w hgd s x t ho base 100 i zcNode 8 64 ht hi hz hsz hb8 rfl (by decide) v m (nds D m) hs h ⟨b, 0, none⟩ 1 1 (nd8 D m) hx rfl ?_ ?_ (by decide) (by unfold maxLen; omega) (by omega) hbase _ rfl ?_
  · intro q u hu
    have hq : q < 8 := by
      have := (List.getElem?_eq_some_iff.1 hu).1
      exact this
    have hadd : (⟨b, 0, none⟩ : Addr).add q = ⟨b, q, none⟩ := by unfold Addr.add; split <;> simp_all
    rw [hadd, hn q hq]; exact hu
  · intro u hu; simp only [nd8, List.mem_cons, List.not_mem_nil, or_false] at hu; rcases hu with rfl | rfl | rfl | rfl | rfl | rfl | rfl | rfl <;> rfl
  · intro g' cap' w' r1 r2 r3 r4
    exact hK g' cap' w' r1 r2
/-- the tree in its block -/
structure TW (w : World) (base tb : Nat) (ai : Option Addr) (N ci : Nat) (v : Value) (m : Nat) (D : Nat → Int) : Prop where
  c0 : w.cell? ⟨tb, 0, none⟩ = some (.slice ai N ci)
  c1 : w.cell? ⟨tb, 1, none⟩ = some v
  f1 : w.frozen? ⟨tb, 1, none⟩ = false
  nl : NL w base v D m
theorem TW.keep {w w' : World} {base tb m N ci : Nat} {ai : Option Addr} {v : Value} {D : Nat → Int} (h : TW w base tb ai N ci v m D) (ht : w'.heap[tb]? = w.heap[tb]?) (hs : ∀ k, base ≤ k → k < w.heap.size → w'.heap[k]? = w.heap[k]?) : TW w' base tb ai N ci v m D :=
  ⟨(World.cell?_of_block (a := ⟨tb, 0, none⟩) ht).trans h.c0, (World.cell?_of_block (a := ⟨tb, 1, none⟩) ht).trans h.c1, (World.frozen?_of_block (a := ⟨tb, 1, none⟩) ht).trans h.f1, h.nl.keep fun g hg => hs g (h.nl.lt g hg).1 (h.nl.lt g hg).2⟩
theorem TW.below {w w' : World} {base tb m N ci : Nat} {ai : Option Addr} {v : Value} {D : Nat → Int} (h : TW w base tb ai N ci v m D) (hb : Below w.heap.size w w') : TW w' base tb ai N ci v m D :=
  h.keep (hb.block _ (cell_lt h.c0)) fun k _ hk => hb.block k hk
theorem TW.congr {w : World} {base tb m N ci : Nat} {ai : Option Addr} {v : Value} {D E : Nat → Int} (h : TW w base tb ai N ci v m D) (e : ∀ q, q < m * 8 → D q = E q) : TW w base tb ai N ci v m E := ⟨h.c0, h.c1, h.f1, h.nl.congr e⟩
/-- what growing the tree may turn: the tree's block, a row of places, blocks of its own -/
structure Gro (lb off n tb base : Nat) (w w' : World) : Prop where
  os : w'.os = w.os
  tape : w'.tape = w.tape
  output : w'.output = w.output
  size : w.heap.size ≤ w'.heap.size
  block : ∀ k, k < base → k ≠ tb → k ≠ lb → w'.heap[k]? = w.heap[k]?
  out : ∀ k, (k < off ∨ off + n ≤ k) → w'.cell? ⟨lb, k, none⟩ = w.cell? ⟨lb, k, none⟩
  frz : ∀ k, w'.frozen? ⟨lb, k, none⟩ = w.frozen? ⟨lb, k, none⟩
theorem Gro.refl (lb off n tb base : Nat) (w : World) : Gro lb off n tb base w w := ⟨rfl, rfl, rfl, Nat.le_refl _, fun _ _ _ _ => rfl, fun _ _ => rfl, fun _ => rfl⟩
theorem Gro.trans {lb off n off2 n2 tb base : Nat} {a b c : World} (h : Gro lb off n tb base a b) (k : Gro lb off2 n2 tb base b c) (h1 : off ≤ off2) (h2 : off2 + n2 ≤ off + n) : Gro lb off n tb base a c :=
  ⟨k.os.trans h.os, k.tape.trans h.tape, k.output.trans h.output, Nat.le_trans h.size k.size, fun i a1 a2 a3 => (k.block i a1 a2 a3).trans (h.block i a1 a2 a3), fun i hi => (k.out i (by omega)).trans (h.out i hi), fun i => (k.frz i).trans (h.frz i)⟩
theorem Gro.wide {lb off n off2 n2 tb base : Nat} {a b : World} (h : Gro lb off2 n2 tb base a b) (h1 : off ≤ off2) (h2 : off2 + n2 ≤ off + n) : Gro lb off n tb base a b :=
  ⟨h.os, h.tape, h.output, h.size, h.block, fun i hi => h.out i (by omega), h.frz⟩
theorem Gro.below {lb off n tb base : Nat} {a b : World} (h : Below a.heap.size a b) (hlb : lb < a.heap.size) (hb : base ≤ a.heap.size) : Gro lb off n tb base a b :=
  ⟨h.os, h.tape, h.output, h.size, fun k h1 _ _ => h.block k (by omega), fun i _ => h.cell (p := ⟨lb, i, none⟩) hlb, fun i => h.frozen (p := ⟨lb, i, none⟩) hlb⟩
theorem Gro.trn {lb off n tb base : Nat} {a b : World} (h : Trn lb off n a b) (hb : base ≤ a.heap.size) : Gro lb off n tb base a b :=
  ⟨h.but.os, h.but.tape, h.but.output, h.but.size, fun k h1 _ h3 => h.but.block k (by omega) h3, h.out, h.frz⟩
theorem Gro.row {lb off n off2 n2 tb base : Nat} {a b : World} {V : Nat → Int} (h : Gro lb off n tb base a b) (hR : Rwo a lb off2 n2 V) (hd : off2 + n2 ≤ off ∨ off + n ≤ off2) : Rwo b lb off2 n2 V :=
  ⟨fun i hi => (h.out _ (by omega)).trans (hR.cell i hi), fun i hi => (h.frz _).trans (hR.free i hi)⟩
/-- the items lie elsewhere -/
def Els (ai : Option Addr) (tb lb base : Nat) : Prop := ∀ b o, ai = some ⟨b, o, none⟩ → b < base ∧ b ≠ tb ∧ b ≠ lb
theorem Flat.gro {w w' : World} {lb off n tb base m : Nat} {ai : Option Addr} {U : Nat → Int} (h : Flat w ai m U) (hE : Els ai tb lb base) (hG : Gro lb off n tb base w w') : Flat w' ai m U := by
  intro hm
  obtain ⟨b, o, e, hb, hc⟩ := h hm
  obtain ⟨e1, e2, e3⟩ := hE b o e
  exact ⟨b, o, e, Nat.lt_of_lt_of_le hb hG.size, fun q hq => (World.cell?_of_block (a := ⟨b, o + q, none⟩) (hG.block b e1 e2 e3)).trans (hc q hq)⟩
end Go.Proofs.Ytbngdlbecdloiaa
