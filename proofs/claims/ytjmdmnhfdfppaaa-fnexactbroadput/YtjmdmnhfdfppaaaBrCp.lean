/- Boxes with their numbers, copied and put together. -/
import Derived.Test.YtjmdmnhfdfppaaaLsB
import Derived.Test.YtjmdmnhfdfppaaaAp
import Derived.Lib.AppendZeros
import Derived.Deep.RegionHeld3
import Derived.Deep.DeepCutAuto
namespace Go.Proofs.Ytjmdmnhfdfppaaa
open Go.RowKit
set_option linter.unusedVariables false
set_option linter.unusedSimpArgs false
theorem infoIt : (Try.prog.info? 42).map (fun i => (i.zero, i.size, i.bytes)) = some (some zeroI, 5, 40) := by kernel_rfl
theorem grow_any (n : Nat) (w : World) (hn : n ≤ 2097152) (U : Nat → Int) :
    Calls Try.prog 34 #[.slice none 0 0, .int .i64 (n : Int)] w fun e w' => ∃ a c, e = .returned (.slice a 0 c) ∧ OwnL w' w.heap.size 42 5 (.slice a 0 c) 0 U ∧ Below w.heap.size w w' := by
  by_cases h0 : n = 0
  · subst h0
    go_enter Try.func34, Try.ntmps34
    go_wp2
    go_ret
    exact ⟨none, 0, rfl, OwnL.nil _ _ _ _ _, Below.refl _ _⟩
  · have hp : (0 : Int) < (n : Int) := by omega
    have hnn : ¬ ((n : Int) < 0) := by omega
    obtain ⟨i, hi, hzz⟩ := Option.map_eq_some_iff.1 infoIt
    simp only [Prod.mk.injEq] at hzz
    obtain ⟨hz, hs, hb⟩ := hzz
    have hr := Go.Lib.run_append_nil_zeros (P := Try.prog) w 32 3 32 42 i zeroI .i64 .i64 Try.underlying32 Try.underlying3 hi hz n (by omega) (by rw [hs]; decide) (by omega) (by rw [hb]; omega)
    have hcap := grownCap_ge w n 0 42
    have hmax := grownCap_le_maxLen w n 0 42 (by unfold maxLen; omega)
    have hM : (Builtin.zeroCells zeroI.cells n ++ Builtin.zeroCells zeroI.cells (grownCap w n 0 42 - n)).size = grownCap w n 0 42 * 5 := by
      rw [Array.size_append, size_zeroCells, size_zeroCells, ← Nat.add_mul, Nat.add_sub_cancel' hcap]; rfl
    generalize grownCap w n 0 42 = cp at hr hcap hmax hM
    generalize Builtin.zeroCells zeroI.cells n ++ Builtin.zeroCells zeroI.cells (cp - n) = M at hr hM
    have hcp : 0 ≤ (cp : Int) := by omega
    go_enter Try.func34, Try.ntmps34
    go_wp2_with (refine Go.Lib.wpList_append_run _ rfl _ _ _ _ rfl _ _ rfl rfl _ _ hr ?_)
    go_ret
    refine ⟨_, _, rfl, ?_, (Below.refl _ _).drew.alloc (by simp) _⟩
    refine ⟨by simp [numL], .inr ⟨w.heap.size, cp, M, rfl, Nat.le_refl _, ?_, Nat.zero_le _, hmax, hM, by simp [numL]⟩⟩
    exact Go.Deep.blk_alloc_new w.drew (.cells M 42)
def lenS (L : Nat → Nat) : Nat → Nat
  | 0 => 0
  | k + 1 => lenS L k + L k
def catS (L : Nat → Nat) (X : Nat → Nat → Int) : Nat → Nat → Int
  | 0 => fun _ => 0
  | k + 1 => cat (lenS L k * 5) (catS L X k) (X k)
theorem lenS_mono (L : Nat → Nat) : ∀ (k r : Nat), k ≤ r → lenS L k ≤ lenS L r
  | k, 0, h => by rw [Nat.le_zero.1 h]; exact Nat.le_refl _
  | k, r + 1, h => by
    rcases Nat.lt_or_eq_of_le h with h | h
    · exact Nat.le_trans (lenS_mono L k r (by omega)) (show lenS L r ≤ lenS L r + L r by omega)
    · rw [h]; exact Nat.le_refl _
set_option maxHeartbeats 4000000 in
theorem concat_any (b0 r c0 : Nat) (A : Nat → Option Addr) (L C : Nat → Nat) (X : Nat → Nat → Int) (w : World) (hb0 : b0 < w.heap.size) (hr : r ≤ 3)
    (hc : ∀ j, j < r → w.cell? ⟨b0, j, none⟩ = some (.slice (A j) (L j) (C j))) (hF : ∀ j, j < r → Flat w (A j) (L j * 5) (X j)) (hL : lenS L r ≤ 2097152) :
    Calls Try.prog 27 #[.slice (some ⟨b0, 0, none⟩) r c0] w fun e w' => ∃ a c, e = .returned (.slice a (lenS L r) c) ∧ OwnL w' w.heap.size 42 5 (.slice a (lenS L r) c) (lenS L r) (catS L X r) ∧ Below w.heap.size w w' := by
  go_enter Try.func27, Try.ntmps27
  go_wp2
  go_loop [3, 11] (fun s i => ∃ k : Nat, k ≤ r ∧ i = .int .i64 (k : Int) ∧ s = .int .i64 (lenS L k : Int)) (fun _ i => r - (intOf i).toNat)
  case atStart => exact ⟨0, Nat.zero_le _, rfl, rfl⟩
  case round =>
    obtain ⟨k, hk, rfl, rfl⟩ := hrel
    by_cases hlt : k < r
    · have hkr : (k : Int) < (r : Int) := by omega
      have c1 := hc k hlt
      have hm := lenS_mono L (k + 1) r (by omega)
      have hs : lenS L (k + 1) = lenS L k + L k := rfl
      have hnn : ¬ ((lenS L k : Int) + (L k : Int) < 0) := by omega
      go_wp2
      go_round
      case rel => exact ⟨k + 1, by omega, by go_num, by rw [hs]; go_num⟩
      case measure => simp [intOf]; omega
    · obtain rfl : k = r := by omega
      go_wp2_with (go_at_call 34; refine (grow_any _ _ (by omega) (fun _ => 0)).mono ?_; rintro e w1 ⟨a1, c1, rfl, ho1, hb1⟩)
      go_loopw [6, 27] (fun s i wr => ∃ (j : Nat) (a c : _) , j ≤ k ∧ i = .int .i64 (j : Int) ∧ s = .slice a (lenS L j) c ∧ OwnL wr w.heap.size 42 5 (.slice a (lenS L j) c) (lenS L j) (catS L X j) ∧ Below w.heap.size w wr) (fun _ i _ => k - (intOf i).toNat)
      case atStart => exact ⟨0, a1, c1, Nat.zero_le _, rfl, rfl, ho1, hb1⟩
      case round =>
        obtain ⟨j, a, c, hj, rfl, rfl, ho, hB⟩ := hrel
        have hsz := hB.size
        by_cases hlt2 : j < k
        · have hkr : (j : Int) < (k : Int) := by omega
          have c2 : wr.cell? ⟨b0, j, none⟩ = some (.slice (A j) (L j) (C j)) := (hB.cell (p := ⟨b0, j, none⟩) hb0).trans (hc j hlt2)
          have hm := lenS_mono L (j + 1) k (by omega)
          have hs : lenS L (j + 1) = lenS L j + L j := rfl
          have hFj : Flat wr (A j) (L j * 5) (X j) := (hF j hlt2).below hB
          have HS : Shut (lenS L (j + 1) = lenS L j + L j) := hs
          clear hs
          go_wp2_with (refine wpList_app rfl _ _ _ rfl w.heap.size 42 5 40 zeroI Try.underlying32 infoIt rfl (by decide) _ _ _ rfl ho _ _ _ _ rfl hFj (by unfold maxLen; have := HS.out; omega) (by have := HS.out; omega) hsz ?_; intro a2 c2 w2 ho2 hg2)
          go_roundw
          case rel => exact ⟨j + 1, a2, c2, by omega, by go_num, by rw [HS.out], by have := HS.out; rw [this]; exact ho2, hB.grown hg2 hsz (fun b hb => (ho.lt b hb).1)⟩
          case measure => simp [intOf]; omega
        · obtain rfl : j = k := by omega
          go_wp2
          go_ret
          exact ⟨a, c, rfl, ho, hB⟩
theorem cat0 (X Y : Nat → Int) : ∀ q, cat (0 * 5) X Y q = Y q := by intro q; simp [cat]
theorem concat1 (b0 c0 : Nat) (a : Option Addr) (n c : Nat) (U : Nat → Int) (w : World) (hb0 : b0 < w.heap.size) (hc : w.cell? ⟨b0, 0, none⟩ = some (.slice a n c)) (hF : Flat w a (n * 5) U) (hn : n ≤ 2097152) :
    Calls Try.prog 27 #[.slice (some ⟨b0, 0, none⟩) 1 c0] w fun e w' => ∃ a' c', e = .returned (.slice a' n c') ∧ OwnL w' w.heap.size 42 5 (.slice a' n c') n U ∧ Below w.heap.size w w' := by
  have e : lenS (fun _ => n) 1 = n := by simp [lenS]
  have q := concat_any b0 1 c0 (fun _ => a) (fun _ => n) (fun _ => c) (fun _ => U) w hb0 (by omega) (fun j hj => by obtain rfl : j = 0 := (by omega); exact hc) (fun j _ => hF) (by omega)
  rw [e] at q
  refine q.mono ?_
  rintro e w' ⟨a', c', h1, h2, h3⟩
  exact ⟨a', c', h1, h2.congr fun q _ => by simp only [catS, lenS]; exact cat0 _ _ q, h3⟩
theorem concat2 (b0 c0 : Nat) (a1 a2 : Option Addr) (n1 n2 c1 c2 : Nat) (U1 U2 : Nat → Int) (w : World) (hb0 : b0 < w.heap.size) (hc1 : w.cell? ⟨b0, 0, none⟩ = some (.slice a1 n1 c1)) (hc2 : w.cell? ⟨b0, 1, none⟩ = some (.slice a2 n2 c2)) (hF1 : Flat w a1 (n1 * 5) U1) (hF2 : Flat w a2 (n2 * 5) U2) (hn : n1 + n2 ≤ 2097152) :
    Calls Try.prog 27 #[.slice (some ⟨b0, 0, none⟩) 2 c0] w fun e w' => ∃ a' c', e = .returned (.slice a' (n1 + n2) c') ∧ OwnL w' w.heap.size 42 5 (.slice a' (n1 + n2) c') (n1 + n2) (cat (n1 * 5) U1 U2) ∧ Below w.heap.size w w' := by
  have e : lenS (fun j => if j = 0 then n1 else n2) 2 = n1 + n2 := by simp [lenS]
  have q := concat_any b0 2 c0 (fun j => if j = 0 then a1 else a2) (fun j => if j = 0 then n1 else n2) (fun j => if j = 0 then c1 else c2) (fun j => if j = 0 then U1 else U2) w hb0 (by omega)
    (fun j hj => by rcases (show j = 0 ∨ j = 1 by omega) with rfl | rfl; exact hc1; exact hc2) (fun j hj => by rcases (show j = 0 ∨ j = 1 by omega) with rfl | rfl; exact hF1; exact hF2) (by omega)
  rw [e] at q
  refine q.mono ?_
  rintro e w' ⟨a', c', h1, h2, h3⟩
  exact ⟨a', c', h1, h2.congr fun q _ => by simp [catS, lenS, cat], h3⟩
theorem concat3 (b0 c0 : Nat) (a1 a2 a3 : Option Addr) (n1 n2 n3 c1 c2 c3 : Nat) (U1 U2 U3 : Nat → Int) (w : World) (hb0 : b0 < w.heap.size) (hc1 : w.cell? ⟨b0, 0, none⟩ = some (.slice a1 n1 c1)) (hc2 : w.cell? ⟨b0, 1, none⟩ = some (.slice a2 n2 c2)) (hc3 : w.cell? ⟨b0, 2, none⟩ = some (.slice a3 n3 c3))
    (hF1 : Flat w a1 (n1 * 5) U1) (hF2 : Flat w a2 (n2 * 5) U2) (hF3 : Flat w a3 (n3 * 5) U3) (hn : n1 + n2 + n3 ≤ 2097152) :
    Calls Try.prog 27 #[.slice (some ⟨b0, 0, none⟩) 3 c0] w fun e w' => ∃ a' c', e = .returned (.slice a' (n1 + n2 + n3) c') ∧ OwnL w' w.heap.size 42 5 (.slice a' (n1 + n2 + n3) c') (n1 + n2 + n3) (cat ((n1 + n2) * 5) (cat (n1 * 5) U1 U2) U3) ∧ Below w.heap.size w w' := by
  have e : lenS (fun j => if j = 0 then n1 else if j = 1 then n2 else n3) 3 = n1 + n2 + n3 := by simp [lenS]
  have q := concat_any b0 3 c0 (fun j => if j = 0 then a1 else if j = 1 then a2 else a3) (fun j => if j = 0 then n1 else if j = 1 then n2 else n3) (fun j => if j = 0 then c1 else if j = 1 then c2 else c3) (fun j => if j = 0 then U1 else if j = 1 then U2 else U3) w hb0 (by omega)
    (fun j hj => by rcases (show j = 0 ∨ j = 1 ∨ j = 2 by omega) with rfl | rfl | rfl; exact hc1; exact hc2; exact hc3) (fun j hj => by rcases (show j = 0 ∨ j = 1 ∨ j = 2 by omega) with rfl | rfl | rfl; exact hF1; exact hF2; exact hF3) (by omega)
  rw [e] at q
  refine q.mono ?_
  rintro e w' ⟨a', c', h1, h2, h3⟩
  exact ⟨a', c', h1, h2.congr fun q _ => by simp [catS, lenS, cat], h3⟩
end Go.Proofs.Ytjmdmnhfdfppaaa
