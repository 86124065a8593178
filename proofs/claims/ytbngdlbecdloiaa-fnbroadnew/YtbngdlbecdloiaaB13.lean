/- The walks of the exact laws of chapter 2. Lists of boxes with their numbers: held against each other; the exact law of BroadOk. Boxes with their numbers, copied and put together. The contracts of spans. The comparison by which the tree sorts: it reads, and lays new blocks alone. A contract of spans. Closed facts of the loaded program, each a theorem of its own. -/
import Derived.Test.YtbngdlbecdloiaaB3
import Derived.Test.YtbngdlbecdloiaaB10
import Derived.Test.YtbngdlbecdloiaaB7
import Derived.Deep.QuietTactic
import Derived.BigQuiet
import Derived.Deep.RegionWith
import Derived.Test.YtbngdlbecdloiaaBrOk
import Derived.Deep.RegionHeld3
import Derived.Deep.DeepCutAuto
import Derived.Test.YtbngdlbecdloiaaB4
import Derived.Lib.AppendZeros
import Derived.Test.YtbngdlbecdloiaaBox
import Derived.Test.YtbngdlbecdloiaaB12
import Derived.ProofKit
set_option maxHeartbeats 16000000
set_option maxRecDepth 20000
namespace Go.Proofs.Ytbngdlbecdloiaa
open Go.RowKit
set_option linter.unusedVariables false
set_option linter.unusedSimpArgs false

end Go.Proofs.Ytbngdlbecdloiaa
namespace Go.Proofs.Ytbngdlbecdloiaa
open Go.RowKit
set_option linter.unusedVariables false
set_option linter.unusedSimpArgs false

end Go.Proofs.Ytbngdlbecdloiaa
namespace Go.Proofs.Ytbngdlbecdloiaa
open Go.RowKit
set_option linter.unusedVariables false
set_option linter.unusedSimpArgs false
theorem infoIt : (Try.prog.info? 31).map (fun i => (i.zero, i.size, i.bytes)) = some (some zeroI, 5, 40) := by kernel_rfl
set_option maxRecDepth 20000 in
theorem grow_any (n : Nat) (w : World) (hn : n ≤ 2097152) (U : Nat → Int) :
    Calls Try.prog 60 #[.slice none 0 0, .int .i64 (n : Int)] w fun e w' => ∃ a c, e = .returned (.slice a 0 c) ∧ OwnL w' w.heap.size 31 5 (.slice a 0 c) 0 U ∧ Below w.heap.size w w' := by
  by_cases h0 : n = 0
  · subst h0
    go_enter Try.func60, Try.ntmps60
    go_wp2
    go_ret
    exact ⟨none, 0, rfl, OwnL.nil _ _ _ _ _, Below.refl _ _⟩
  · have hp : (0 : Int) < (n : Int) := by omega
    have hnn : ¬ ((n : Int) < 0) := by omega
    obtain ⟨i, hi, hzz⟩ := Option.map_eq_some_iff.1 infoIt
    simp only [Prod.mk.injEq] at hzz
    obtain ⟨hz, hs, hb⟩ := hzz
    have hr := Go.Lib.run_append_nil_zeros (P := Try.prog) w 23 3 23 31 i zeroI .i64 .i64 Try.underlying23 Try.underlying3 hi hz n (by omega) (by rw [hs]; decide) (by omega) (by rw [hb]; omega)
    have hcap := grownCap_ge w n 0 31
    have hmax := grownCap_le_maxLen w n 0 31 (by unfold maxLen; omega)
    have hM : (Builtin.zeroCells zeroI.cells n ++ Builtin.zeroCells zeroI.cells (grownCap w n 0 31 - n)).size = grownCap w n 0 31 * 5 := by
      rw [Array.size_append, size_zeroCells, size_zeroCells, ← Nat.add_mul, Nat.add_sub_cancel' hcap]; rfl
    generalize grownCap w n 0 31 = cp at hr hcap hmax hM
    generalize Builtin.zeroCells zeroI.cells n ++ Builtin.zeroCells zeroI.cells (cp - n) = M at hr hM
    have hcp : 0 ≤ (cp : Int) := by omega
    go_enter Try.func60, Try.ntmps60
    go_wp2_with (refine Go.Lib.wpList_append_run _ rfl _ _ _ _ rfl _ _ rfl rfl _ _ hr ?_)
    go_ret
    refine ⟨_, _, rfl, ?_, (Below.refl _ _).drew.alloc (by simp) _⟩
    refine ⟨by simp [numL], .inr ⟨w.heap.size, cp, M, rfl, Nat.le_refl _, ?_, Nat.zero_le _, hmax, hM, by simp [numL]⟩⟩
    exact Go.Deep.blk_alloc_new w.drew (.cells M 31)
def lenS (L : Nat → Nat) : Nat → Nat
  | 0 => 0
  | k + 1 => lenS L k + L k
def catS (L : Nat → Nat) (X : Nat → Nat → Int) : Nat → Nat → Int
  | 0 => fun _ => 0
  | k + 1 => cat (lenS L k * 5) (catS L X k) (X k)
theorem lenS_mono (L : Nat → Nat) : ∀ (k r : Nat), k ≤ r → lenS L k ≤ lenS L r
  | k, 0, h => by rw [Nat.le_zero.1 h]; exact Nat.le_refl _
  | k, r + 1, h => by
    rcases Nat.lt_or_eq_of_le h with h | h
    · exact Nat.le_trans (lenS_mono L k r (by omega)) (show lenS L r ≤ lenS L r + L r by omega)
    · rw [h]; exact Nat.le_refl _
set_option maxHeartbeats 4000000 in
theorem concat_any (b0 r c0 : Nat) (A : Nat → Option Addr) (L C : Nat → Nat) (X : Nat → Nat → Int) (w : World) (hb0 : b0 < w.heap.size) (hr : r ≤ 3)
    (hc : ∀ j, j < r → w.cell? ⟨b0, j, none⟩ = some (.slice (A j) (L j) (C j))) (hF : ∀ j, j < r → Flat w (A j) (L j * 5) (X j)) (hL : lenS L r ≤ 2097152) :
    Calls Try.prog 41 #[.slice (some ⟨b0, 0, none⟩) r c0] w fun e w' => ∃ a c, e = .returned (.slice a (lenS L r) c) ∧ OwnL w' w.heap.size 31 5 (.slice a (lenS L r) c) (lenS L r) (catS L X r) ∧ Below w.heap.size w w' := by
  go_enter Try.func41, Try.ntmps41
  go_wp2
  go_loop [3, 11] (fun s i => ∃ k : Nat, k ≤ r ∧ i = .int .i64 (k : Int) ∧ s = .int .i64 (lenS L k : Int)) (fun _ i => r - (intOf i).toNat)
  case atStart => exact ⟨0, Nat.zero_le _, rfl, rfl⟩
  case round =>
    obtain ⟨k, hk, rfl, rfl⟩ := hrel
    by_cases hlt : k < r
    · have hkr : (k : Int) < (r : Int) := by omega
      have c1 := hc k hlt
      have hm := lenS_mono L (k + 1) r (by omega)
      have hs : lenS L (k + 1) = lenS L k + L k := rfl
      have hnn : ¬ ((lenS L k : Int) + (L k : Int) < 0) := by omega
      go_wp2
      go_round
      case rel => exact ⟨k + 1, by omega, by go_num, by rw [hs]; go_num⟩
      case measure => simp [intOf]; omega
    · obtain rfl : k = r := by omega
      go_wp2_with (go_at_call 60; refine (grow_any _ _ (by omega) (fun _ => 0)).mono ?_; rintro e w1 ⟨a1, c1, rfl, ho1, hb1⟩)
      go_loopw [6, 27] (fun s i wr => ∃ (j : Nat) (a c : _) , j ≤ k ∧ i = .int .i64 (j : Int) ∧ s = .slice a (lenS L j) c ∧ OwnL wr w.heap.size 31 5 (.slice a (lenS L j) c) (lenS L j) (catS L X j) ∧ Below w.heap.size w wr) (fun _ i _ => k - (intOf i).toNat)
      case atStart => exact ⟨0, a1, c1, Nat.zero_le _, rfl, rfl, ho1, hb1⟩
      case round =>
        obtain ⟨j, a, c, hj, rfl, rfl, ho, hB⟩ := hrel
        have hsz := hB.size
        by_cases hlt2 : j < k
        · have hkr : (j : Int) < (k : Int) := by omega
          have c2 : wr.cell? ⟨b0, j, none⟩ = some (.slice (A j) (L j) (C j)) := (hB.cell (p := ⟨b0, j, none⟩) hb0).trans (hc j hlt2)
          have hm := lenS_mono L (j + 1) k (by omega)
          have hs : lenS L (j + 1) = lenS L j + L j := rfl
          have hFj : Flat wr (A j) (L j * 5) (X j) := (hF j hlt2).below hB
          have HS : Shut (lenS L (j + 1) = lenS L j + L j) := hs
          clear hs
          go_wp2_with (refine wpList_app rfl _ _ _ rfl w.heap.size 31 5 40 zeroI Try.underlying23 infoIt rfl (by decide) _ _ _ rfl ho _ _ _ _ rfl hFj (by unfold maxLen; have := HS.out; omega) (by have := HS.out; omega) hsz ?_; intro a2 c2 w2 ho2 hg2)
          go_roundw
          case rel => exact ⟨j + 1, a2, c2, by omega, by go_num, by rw [HS.out], by have := HS.out; rw [this]; exact ho2, hB.grown hg2 hsz (fun b hb => (ho.lt b hb).1)⟩
          case measure => simp [intOf]; omega
        · obtain rfl : j = k := by omega
          go_wp2
          go_ret
          exact ⟨a, c, rfl, ho, hB⟩
theorem cat0 (X Y : Nat → Int) : ∀ q, cat (0 * 5) X Y q = Y q := by intro q; simp [cat]
theorem concat1 (b0 c0 : Nat) (a : Option Addr) (n c : Nat) (U : Nat → Int) (w : World) (hb0 : b0 < w.heap.size) (hc : w.cell? ⟨b0, 0, none⟩ = some (.slice a n c)) (hF : Flat w a (n * 5) U) (hn : n ≤ 2097152) :
    Calls Try.prog 41 #[.slice (some ⟨b0, 0, none⟩) 1 c0] w fun e w' => ∃ a' c', e = .returned (.slice a' n c') ∧ OwnL w' w.heap.size 31 5 (.slice a' n c') n U ∧ Below w.heap.size w w' := by
  have e : lenS (fun _ => n) 1 = n := by simp [lenS]
  have q := concat_any b0 1 c0 (fun _ => a) (fun _ => n) (fun _ => c) (fun _ => U) w hb0 (by omega) (fun j hj => by obtain rfl : j = 0 := (by omega); exact hc) (fun j _ => hF) (by omega)
  rw [e] at q
  refine q.mono ?_
  rintro e w' ⟨a', c', h1, h2, h3⟩
  exact ⟨a', c', h1, h2.congr fun q _ => by simp only [catS, lenS]; exact cat0 _ _ q, h3⟩
theorem concat2 (b0 c0 : Nat) (a1 a2 : Option Addr) (n1 n2 c1 c2 : Nat) (U1 U2 : Nat → Int) (w : World) (hb0 : b0 < w.heap.size) (hc1 : w.cell? ⟨b0, 0, none⟩ = some (.slice a1 n1 c1)) (hc2 : w.cell? ⟨b0, 1, none⟩ = some (.slice a2 n2 c2)) (hF1 : Flat w a1 (n1 * 5) U1) (hF2 : Flat w a2 (n2 * 5) U2) (hn : n1 + n2 ≤ 2097152) :
    Calls Try.prog 41 #[.slice (some ⟨b0, 0, none⟩) 2 c0] w fun e w' => ∃ a' c', e = .returned (.slice a' (n1 + n2) c') ∧ OwnL w' w.heap.size 31 5 (.slice a' (n1 + n2) c') (n1 + n2) (cat (n1 * 5) U1 U2) ∧ Below w.heap.size w w' := by
  have e : lenS (fun j => if j = 0 then n1 else n2) 2 = n1 + n2 := by simp [lenS]
  have q := concat_any b0 2 c0 (fun j => if j = 0 then a1 else a2) (fun j => if j = 0 then n1 else n2) (fun j => if j = 0 then c1 else c2) (fun j => if j = 0 then U1 else U2) w hb0 (by omega)
    (fun j hj => by rcases (show j = 0 ∨ j = 1 by omega) with rfl | rfl; exact hc1; exact hc2) (fun j hj => by rcases (show j = 0 ∨ j = 1 by omega) with rfl | rfl; exact hF1; exact hF2) (by omega)
  rw [e] at q
  refine q.mono ?_
  rintro e w' ⟨a', c', h1, h2, h3⟩
  exact ⟨a', c', h1, h2.congr fun q _ => by simp [catS, lenS, cat], h3⟩
theorem concat3 (b0 c0 : Nat) (a1 a2 a3 : Option Addr) (n1 n2 n3 c1 c2 c3 : Nat) (U1 U2 U3 : Nat → Int) (w : World) (hb0 : b0 < w.heap.size) (hc1 : w.cell? ⟨b0, 0, none⟩ = some (.slice a1 n1 c1)) (hc2 : w.cell? ⟨b0, 1, none⟩ = some (.slice a2 n2 c2)) (hc3 : w.cell? ⟨b0, 2, none⟩ = some (.slice a3 n3 c3))
    (hF1 : Flat w a1 (n1 * 5) U1) (hF2 : Flat w a2 (n2 * 5) U2) (hF3 : Flat w a3 (n3 * 5) U3) (hn : n1 + n2 + n3 ≤ 2097152) :
    Calls Try.prog 41 #[.slice (some ⟨b0, 0, none⟩) 3 c0] w fun e w' => ∃ a' c', e = .returned (.slice a' (n1 + n2 + n3) c') ∧ OwnL w' w.heap.size 31 5 (.slice a' (n1 + n2 + n3) c') (n1 + n2 + n3) (cat ((n1 + n2) * 5) (cat (n1 * 5) U1 U2) U3) ∧ Below w.heap.size w w' := by
  have e : lenS (fun j => if j = 0 then n1 else if j = 1 then n2 else n3) 3 = n1 + n2 + n3 := by simp [lenS]
  have q := concat_any b0 3 c0 (fun j => if j = 0 then a1 else if j = 1 then a2 else a3) (fun j => if j = 0 then n1 else if j = 1 then n2 else n3) (fun j => if j = 0 then c1 else if j = 1 then c2 else c3) (fun j => if j = 0 then U1 else if j = 1 then U2 else U3) w hb0 (by omega)
    (fun j hj => by rcases (show j = 0 ∨ j = 1 ∨ j = 2 by omega) with rfl | rfl | rfl; exact hc1; exact hc2; exact hc3) (fun j hj => by rcases (show j = 0 ∨ j = 1 ∨ j = 2 by omega) with rfl | rfl | rfl; exact hF1; exact hF2; exact hF3) (by omega)
  rw [e] at q
  refine q.mono ?_
  rintro e w' ⟨a', c', h1, h2, h3⟩
  exact ⟨a', c', h1, h2.congr fun q _ => by simp [catS, lenS, cat], h3⟩
end Go.Proofs.Ytbngdlbecdloiaa
namespace Go.Proofs.Ytbngdlbecdloiaa
open Go.RowKit
set_option linter.unusedVariables false
set_option linter.unusedSimpArgs false

/-- the lesser, the greater -/
def mn (x y : Int) : Int := if y < x then y else x
def mx (x y : Int) : Int := if x < y then y else x
theorem mn_bd {B x y : Int} (hx : -B ≤ x ∧ x ≤ B) (hy : -B ≤ y ∧ y ≤ B) : -B ≤ mn x y ∧ mn x y ≤ B := by unfold mn; split <;> omega
theorem mx_bd {B x y : Int} (hx : -B ≤ x ∧ x ≤ B) (hy : -B ≤ y ∧ y ≤ B) : -B ≤ mx x y ∧ mx x y ≤ B := by unfold mx; split <;> omega

set_option maxHeartbeats 1000000 in
theorem spanOf_any (a b c d : Int) (w : World) :
    Calls Try.prog 48 #[b4 a b c d] w fun e w' => e = .returned (b4 a b c d) ∧ Below w.heap.size w w' := by
  have hset := cset_map
  go_enter Try.func48, Try.ntmps48
  go_wp2
  go_region_held3 (fun w' => w'.cell? ⟨w.heap.size, 0, none⟩ = some (.int .i64 a) ∧ w'.cell? ⟨w.heap.size, 1, none⟩ = some (.int .i64 b) ∧ w'.cell? ⟨w.heap.size, 2, none⟩ = some (.int .i64 c) ∧ w'.cell? ⟨w.heap.size, 3, none⟩ = some (.int .i64 d)) (first | (go_simp; done) | (go_keep; done)) ((go_at_call 62; refine (wayOf_any _ _ _).mono ?_; rintro e w1 ⟨rfl, hb1⟩; obtain ⟨hc1, hf1⟩ := bcell hb1; have hl1 := blt hb1; have hz1 := hb1.size; (try simp only [World.size_drew, World.size_alloc, World.size_setCell] at hc1 hf1 hl1 hz1); (try have hq1x0 : w.heap.size < w1.heap.size := (by omega)); (try have hq1x1 : w.heap.size + 1 < w1.heap.size := (by omega))))
  all_goals
    go_wp2
    exact bodyPost_ret (v := b4 a b c d) (by simp [results, Try.results48, go_sem, *]) rfl ⟨rfl, bel_a⟩

set_option maxHeartbeats 1000000 in
theorem spanBox_any (a b c d : Int) (w : World) :
    Calls Try.prog 55 #[b4 a b c d] w fun e w' => e = .returned (b4 a b c d) ∧ Below w.heap.size w w' := by
  have hset := cset_map
  go_enter Try.func55, Try.ntmps55
  go_wp2
  go_region_held3 (fun w' => w'.cell? ⟨w.heap.size, 0, none⟩ = some (.int .i64 a) ∧ w'.cell? ⟨w.heap.size, 1, none⟩ = some (.int .i64 b) ∧ w'.cell? ⟨w.heap.size, 2, none⟩ = some (.int .i64 c) ∧ w'.cell? ⟨w.heap.size, 3, none⟩ = some (.int .i64 d)) (first | (go_simp; done) | (go_keep; done)) ((go_at_call 68; refine (vec_any _ _ _).mono ?_; rintro e w1 ⟨rfl, hb1⟩; obtain ⟨hc1, hf1⟩ := bcell hb1; have hl1 := blt hb1; have hz1 := hb1.size; (try simp only [World.size_drew, World.size_alloc, World.size_setCell] at hc1 hf1 hl1 hz1); (try have hq1x0 : w.heap.size < w1.heap.size := (by omega)); (try have hq1x1 : w.heap.size + 1 < w1.heap.size := (by omega))))
  all_goals
    go_wp2
    exact bodyPost_ret (v := b4 a b c d) (by simp [results, Try.results55, go_sem, *]) rfl ⟨rfl, bel_a⟩

set_option maxHeartbeats 1000000 in
theorem spanMeets_any (a b c d r s t u : Int) (w : World) :
    Calls Try.prog 51 #[b4 a b c d, b4 r s t u] w fun e w' => e = .returned (.bool (leB a b t u && leB r s c d)) ∧ Below w.heap.size w w' := by
  have hset := cset_map
  go_enter Try.func51, Try.ntmps51
  go_wp2_with (go_at_call 63; refine (noneGreater_any _ _ _ _ _).mono ?_; rintro e w1 ⟨rfl, hb1⟩; obtain ⟨hc1, hf1⟩ := bcell hb1; have hl1 := blt hb1; have hz1 := hb1.size; (try simp only [World.size_drew, World.size_alloc, World.size_setCell] at hc1 hf1 hl1 hz1); (try have hq1x0 : w.heap.size < w1.heap.size := (by omega)); (try have hq1x1 : w.heap.size + 1 < w1.heap.size := (by omega)))
  all_goals
    go_ret
    refine ⟨ret_bool ?_, bel_a⟩
    first | (simp [*]; done) | (simp at *; simp [*]; done) | (simp at *; omega)

set_option maxHeartbeats 1000000 in
theorem least_any (x y u v : Int) (w : World) :
    Calls Try.prog 66 #[vv x y, vv u v] w fun e w' => e = .returned (vv (mn x u) (mn y v)) ∧ Below w.heap.size w w' := by
  have hset := cset_map
  go_enter Try.func66, Try.ntmps66
  go_wp2
  all_goals
    refine bodyPost_ret (v := vv (mn x u) (mn y v)) ?_ rfl ⟨rfl, bel_a⟩
    simp [results, Try.results66, go_sem, *]
    try (constructor <;> (unfold mn; split <;> omega))

set_option maxHeartbeats 1000000 in
theorem greatest_any (x y u v : Int) (w : World) :
    Calls Try.prog 67 #[vv x y, vv u v] w fun e w' => e = .returned (vv (mx x u) (mx y v)) ∧ Below w.heap.size w w' := by
  have hset := cset_map
  go_enter Try.func67, Try.ntmps67
  go_wp2
  all_goals
    refine bodyPost_ret (v := vv (mx x u) (mx y v)) ?_ rfl ⟨rfl, bel_a⟩
    simp [results, Try.results67, go_sem, *]
    try (constructor <;> (unfold mx; split <;> omega))

end Go.Proofs.Ytbngdlbecdloiaa
namespace Go.Proofs.Ytbngdlbecdloiaa
open Go.RowKit
set_option linter.unusedVariables false
set_option linter.unusedSimpArgs false
theorem isNaN_any (a : Int) (w : World) : Calls Try.prog 96 #[.int .i64 a] w fun e w' => e = .returned (.bool false) ∧ w' = w := by
  go_enter Try.func96, Try.ntmps96
  go_wp2
  go_ret
  exact ⟨ret_bool (by simp), rfl⟩
theorem compare_any (a b : Int) (w : World) : Calls Try.prog 83 #[.int .i64 a, .int .i64 b] w fun e w' => (∃ r : Int, e = .returned (.int .i64 r)) ∧ Below w.heap.size w w' := by
  by_cases h1 : a < b
  · go_enter Try.func83, Try.ntmps83
    go_wp2_with (go_at_call 96; refine (isNaN_any _ _).mono ?_; rintro e w1 ⟨rfl, rfl⟩)
    go_ret
    exact ⟨⟨_, rfl⟩, Below.refl _ _⟩
  · by_cases h2 : b < a
    · go_enter Try.func83, Try.ntmps83
      go_wp2_with (go_at_call 96; refine (isNaN_any _ _).mono ?_; rintro e w1 ⟨rfl, rfl⟩)
      go_ret
      exact ⟨⟨_, rfl⟩, Below.refl _ _⟩
    · go_enter Try.func83, Try.ntmps83
      go_wp2_with (go_at_call 96; refine (isNaN_any _ _).mono ?_; rintro e w1 ⟨rfl, rfl⟩)
      go_ret
      exact ⟨⟨_, rfl⟩, Below.refl _ _⟩
theorem box_cells {w : World} {b o N p : Nat} {U : Nat → Int} (hc : ∀ q, q < N * 5 → w.cell? ⟨b, o + q, none⟩ = some (.int .i64 (U q))) (hp : p < N) :
    w.cell? ⟨b, o + p * 5, none⟩ = some (.int .i64 (U (p * 5))) ∧ w.cell? ⟨b, o + p * 5 + 1, none⟩ = some (.int .i64 (U (p * 5 + 1))) ∧ w.cell? ⟨b, o + p * 5 + 1 + 1, none⟩ = some (.int .i64 (U (p * 5 + 2))) ∧ w.cell? ⟨b, o + p * 5 + 1 + 2, none⟩ = some (.int .i64 (U (p * 5 + 3))) ∧ w.cell? ⟨b, o + p * 5 + 1 + 3, none⟩ = some (.int .i64 (U (p * 5 + 4))) := by
  refine ⟨?_, ?_, ?_, ?_, ?_⟩
  · exact hc (p * 5) (by omega)
  · exact hc (p * 5 + 1) (by omega)
  · rw [show o + p * 5 + 1 + 1 = o + (p * 5 + 2) from by omega]; exact hc (p * 5 + 2) (by omega)
  · rw [show o + p * 5 + 1 + 2 = o + (p * 5 + 3) from by omega]; exact hc (p * 5 + 3) (by omega)
  · rw [show o + p * 5 + 1 + 3 = o + (p * 5 + 4) from by omega]; exact hc (p * 5 + 4) (by omega)
set_option maxRecDepth 20000 in
set_option maxHeartbeats 1000000 in
theorem twice_any (bx tb sb : Nat) (ai : Option Addr) (N ci : Nat) (U : Nat → Int) (s : Int) (hs : s = 0 ∨ s = 1) (p : Nat) (hp : p < N) (w : World) (h : Flat w ai (N * 5) U)
    (c0 : w.cell? ⟨bx, 0, none⟩ = some (.pointer (some ⟨tb, 0, none⟩))) (c1 : w.cell? ⟨tb, 0, none⟩ = some (.slice ai N ci)) (c2 : w.cell? ⟨sb, 0, none⟩ = some (.int .i64 s)) :
    Calls Try.prog 80 #[.int .i64 (p : Int), .pointer (some ⟨bx, 0, none⟩), .pointer (some ⟨sb, 0, none⟩)] w fun e w' => (∃ r : Int, e = .returned (.int .i64 r)) ∧ Below w.heap.size w w' := by
  have hset := cset_map
  obtain ⟨b, o, rfl, hbl, hc⟩ := h (by omega)
  obtain ⟨k0, k1, k2, k3, k4⟩ := box_cells hc hp
  have l2 := cell_lt c2
  have hpi : (p : Int) < (N : Int) := by omega
  simp only at l2
  go_enter Try.func80, Try.ntmps80
  go_upto_region 1 with fail
  go_cut [5] (fun v wc => ∃ x : Nat, v = .pointer (some ⟨x, 0, none⟩) ∧ Below w.heap.size w wc ∧ wc.cell? ⟨x, 0, none⟩ = some (.int .i64 (U (p * 5 + 1))) ∧ wc.cell? ⟨x, 1, none⟩ = some (.int .i64 (U (p * 5 + 2))) ∧ wc.cell? ⟨x, 2, none⟩ = some (.int .i64 (U (p * 5 + 3))) ∧ wc.cell? ⟨x, 3, none⟩ = some (.int .i64 (U (p * 5 + 4))))
  case first =>
    go_wp2_with (go_at_call 48; refine (spanOf_any _ _ _ _ _).mono ?_; rintro e w1 ⟨rfl, hb1⟩; obtain ⟨hc1, hf1⟩ := bcell hb1; have hz1 := hb1.size; (try simp only [World.size_drew, World.size_alloc, World.size_setCell] at hc1 hf1 hz1))
    go_meet
    exact ⟨w1.heap.size, rfl, bel_a, by go_simp, by go_simp, by go_simp, by go_simp⟩
  case rest =>
  obtain ⟨x, rfl, hB, m0, m1, m2, m3⟩ := hcut
  have e2 := (hB.cell (p := ⟨sb, 0, none⟩) l2).trans c2
  go_upto_region 2 with fail
  obtain rfl | rfl := hs
  · refine wp_region_held_drew (S := fun w' => w'.cell? ⟨sb, 0, none⟩ = some (.int .i64 0) ∧ w'.cell? ⟨x, 0, none⟩ = some (.int .i64 (U (p * 5 + 1))) ∧ w'.cell? ⟨x, 1, none⟩ = some (.int .i64 (U (p * 5 + 2))) ∧ w'.cell? ⟨x, 2, none⟩ = some (.int .i64 (U (p * 5 + 3))) ∧ w'.cell? ⟨x, 3, none⟩ = some (.int .i64 (U (p * 5 + 4)))) (by kernel_rfl) ?_ (fun hHeld => ?_)
    · (try dsimp only)
      (first | (go_simp; done) | (go_keep; done))
    refine tq 0 hHeld ?_
    refine tq 1 hHeld ?_
    refine tq 2 hHeld ?_
    refine tq 3 hHeld ?_
    refine tq 4 hHeld ?_
    refine tq 5 hHeld ?_
    refine tq 6 hHeld ?_
    refine tq 7 hHeld ?_
    refine tq 8 hHeld ?_
    refine tq 9 hHeld ?_
    refine wpAnyH_done (by kernel_rfl) ?_ _
    go_wp2_with fail
    go_ret
    exact ⟨⟨_, rfl⟩, hB.drew⟩
  · refine wp_region_held_drew (S := fun w' => w'.cell? ⟨sb, 0, none⟩ = some (.int .i64 1) ∧ w'.cell? ⟨x, 0, none⟩ = some (.int .i64 (U (p * 5 + 1))) ∧ w'.cell? ⟨x, 1, none⟩ = some (.int .i64 (U (p * 5 + 2))) ∧ w'.cell? ⟨x, 2, none⟩ = some (.int .i64 (U (p * 5 + 3))) ∧ w'.cell? ⟨x, 3, none⟩ = some (.int .i64 (U (p * 5 + 4)))) (by kernel_rfl) ?_ (fun hHeld => ?_)
    · (try dsimp only)
      (first | (go_simp; done) | (go_keep; done))
    refine tq 0 hHeld ?_
    refine tq 1 hHeld ?_
    refine tq 2 hHeld ?_
    refine tq 3 hHeld ?_
    refine tq 4 hHeld ?_
    refine tq 5 hHeld ?_
    refine tq 6 hHeld ?_
    refine tq 7 hHeld ?_
    refine tq 8 hHeld ?_
    refine tq 9 hHeld ?_
    refine wpAnyH_done (by kernel_rfl) ?_ _
    go_wp2_with fail
    go_ret
    exact ⟨⟨_, rfl⟩, hB.drew⟩
set_option maxRecDepth 20000 in
set_option maxHeartbeats 1000000 in
theorem cmp2_any (fb bx tb sb : Nat) (ai : Option Addr) (N ci : Nat) (U : Nat → Int) (s : Int) (hs : s = 0 ∨ s = 1) (p q : Nat) (hp : p < N) (hq : q < N) (w : World) (h : Flat w ai (N * 5) U)
    (c0 : w.cell? ⟨bx, 0, none⟩ = some (.pointer (some ⟨tb, 0, none⟩))) (c1 : w.cell? ⟨tb, 0, none⟩ = some (.slice ai N ci)) (c2 : w.cell? ⟨sb, 0, none⟩ = some (.int .i64 s)) (c3 : w.cell? ⟨fb, 0, none⟩ = some (.func (.func 80) #[] #[.pointer (some ⟨bx, 0, none⟩), .pointer (some ⟨sb, 0, none⟩)])) :
    Calls Try.prog 82 #[.int .i64 (p : Int), .int .i64 (q : Int), .pointer (some ⟨fb, 0, none⟩)] w fun e w' => (∃ r : Int, e = .returned (.int .i64 r)) ∧ Below w.heap.size w w' := by
  have l0 := cell_lt c0
  have l1 := cell_lt c1
  have l2 := cell_lt c2
  have l3 := cell_lt c3
  go_enter Try.func82, Try.ntmps82
  go_upto_region 1 with fail
  refine wp_region_held_drew (S := fun w' => w'.cell? ⟨fb, 0, none⟩ = some (.func (.func 80) #[] #[.pointer (some ⟨bx, 0, none⟩), .pointer (some ⟨sb, 0, none⟩)]) ∧ Below w.heap.size w w') (by kernel_rfl) ⟨c3, (Below.refl _ _).drew⟩ (fun hHeld => ?_)
  refine tq 0 hHeld ?_
  refine tq 1 hHeld ?_
  refine tq 3 hHeld ?_
  refine tq 4 hHeld ?_
  refine tc 2 fun K hK => ?_
  (go_simp; (go_at_call 80; refine (twice_any bx tb sb ai N ci U s hs _ hp _ (h.below hHeld.2) ((hHeld.2.cell (p := ⟨bx, 0, none⟩) l0).trans c0) ((hHeld.2.cell (p := ⟨tb, 0, none⟩) l1).trans c1) ((hHeld.2.cell (p := ⟨sb, 0, none⟩) l2).trans c2)).mono ?_; rintro e w2 ⟨⟨r2, rfl⟩, hb2⟩); (try go_wp2_with fail); refine tr hK (fun hHeld => ?_) ⟨(hb2.cell (p := ⟨fb, 0, none⟩) (Nat.lt_of_lt_of_le l3 hHeld.2.size)).trans hHeld.1, hHeld.2.trans (hb2.mono hHeld.2.size)⟩; clear hK K)
  refine tc 5 fun K hK => ?_
  (go_simp; (go_at_call 80; refine (twice_any bx tb sb ai N ci U s hs _ hq _ (h.below hHeld.2) ((hHeld.2.cell (p := ⟨bx, 0, none⟩) l0).trans c0) ((hHeld.2.cell (p := ⟨tb, 0, none⟩) l1).trans c1) ((hHeld.2.cell (p := ⟨sb, 0, none⟩) l2).trans c2)).mono ?_; rintro e w5 ⟨⟨r5, rfl⟩, hb5⟩); (try go_wp2_with fail); refine tr hK (fun hHeld => ?_) ⟨(hb5.cell (p := ⟨fb, 0, none⟩) (Nat.lt_of_lt_of_le l3 hHeld.2.size)).trans hHeld.1, hHeld.2.trans (hb5.mono hHeld.2.size)⟩; clear hK K)
  refine tc 6 fun K hK => ?_
  (go_simp; (go_at_call 83; refine (compare_any _ _ _).mono ?_; rintro e w9 ⟨⟨r9, rfl⟩, hb9⟩); (try go_wp2_with fail); refine tr hK (fun hHeld => ?_) ⟨(hb9.cell (p := ⟨fb, 0, none⟩) (Nat.lt_of_lt_of_le l3 hHeld.2.size)).trans hHeld.1, hHeld.2.trans (hb9.mono hHeld.2.size)⟩; clear hK K)
  refine tq 7 hHeld ?_
  refine wpAnyH_done (by kernel_rfl) ?_ _
  go_wp2_with fail
  go_ret
  exact ⟨⟨_, rfl⟩, hHeld.2⟩
theorem cmp_of (lb off n fb bx tb sb : Nat) (ai : Option Addr) (N ci : Nat) (U : Nat → Int) (s : Int) (hs : s = 0 ∨ s = 1) (w : World) (h : ∀ wr, Trn lb off n w wr → Flat wr ai (N * 5) U) (n0 : bx ≠ lb) (n1 : tb ≠ lb) (n2 : sb ≠ lb) (n3 : fb ≠ lb)
    (c0 : w.cell? ⟨bx, 0, none⟩ = some (.pointer (some ⟨tb, 0, none⟩))) (c1 : w.cell? ⟨tb, 0, none⟩ = some (.slice ai N ci)) (c2 : w.cell? ⟨sb, 0, none⟩ = some (.int .i64 s)) (c3 : w.cell? ⟨fb, 0, none⟩ = some (.func (.func 80) #[] #[.pointer (some ⟨bx, 0, none⟩), .pointer (some ⟨sb, 0, none⟩)])) :
    Cmp lb off n (N : Int) (.pointer (some ⟨fb, 0, none⟩)) w := by
  intro wr hT p q ⟨hp0, hp⟩ ⟨hq0, hq⟩
  obtain ⟨p', rfl⟩ := Int.eq_ofNat_of_zero_le hp0
  obtain ⟨q', rfl⟩ := Int.eq_ofNat_of_zero_le hq0
  exact cmp2_any fb bx tb sb ai N ci U s hs p' q' (by omega) (by omega) wr (h wr hT) ((hT.but.cell (p := ⟨bx, 0, none⟩) (cell_lt c0) n0).trans c0) ((hT.but.cell (p := ⟨tb, 0, none⟩) (cell_lt c1) n1).trans c1) ((hT.but.cell (p := ⟨sb, 0, none⟩) (cell_lt c2) n2).trans c2) ((hT.but.cell (p := ⟨fb, 0, none⟩) (cell_lt c3) n3).trans c3)
end Go.Proofs.Ytbngdlbecdloiaa
namespace Go.Proofs.Ytbngdlbecdloiaa
open Go.RowKit
set_option linter.unusedVariables false
set_option linter.unusedSimpArgs false

set_option maxHeartbeats 8000000 in
theorem spanBoth_any (a b c d r s t u : Int) (w : World) :
    Calls Try.prog 54 #[b4 a b c d, b4 r s t u] w fun e w' => e = .returned (b4 (mn a r) (mn b s) (mx c t) (mx d u)) ∧ Below w.heap.size w w' := by
  have hset := cset_map
  go_enter Try.func54, Try.ntmps54
  go_wp2
  go_region_held3 (fun w' => w'.cell? ⟨w.heap.size, 0, none⟩ = some (.int .i64 a) ∧ w'.cell? ⟨w.heap.size, 1, none⟩ = some (.int .i64 b) ∧ w'.cell? ⟨w.heap.size, 2, none⟩ = some (.int .i64 c) ∧ w'.cell? ⟨w.heap.size, 3, none⟩ = some (.int .i64 d) ∧ w'.cell? ⟨w.heap.size + 1, 0, none⟩ = some (.int .i64 r) ∧ w'.cell? ⟨w.heap.size + 1, 1, none⟩ = some (.int .i64 s) ∧ w'.cell? ⟨w.heap.size + 1, 2, none⟩ = some (.int .i64 t) ∧ w'.cell? ⟨w.heap.size + 1, 3, none⟩ = some (.int .i64 u)) (first | (go_simp; done) | (go_keep; done)) (first
    | (go_at_call 66; refine (least_any _ _ _ _ _).mono ?_; rintro e w1 ⟨rfl, hb1⟩; obtain ⟨hc1, hf1⟩ := bcell hb1; have hl1 := blt hb1; have hz1 := hb1.size; (try simp only [World.size_drew, World.size_alloc, World.size_setCell] at hc1 hf1 hl1 hz1); (try have hq1x0 : w.heap.size < w1.heap.size := (by omega)); (try have hq1x1 : w.heap.size + 1 < w1.heap.size := (by omega)); (try have hq1x2 : w.heap.size + 1 + 1 < w1.heap.size := (by omega)))
    | (go_at_call 67; refine (greatest_any _ _ _ _ _).mono ?_; rintro e w1 ⟨rfl, hb1⟩; obtain ⟨hc1, hf1⟩ := bcell hb1; have hl1 := blt hb1; have hz1 := hb1.size; (try simp only [World.size_drew, World.size_alloc, World.size_setCell] at hc1 hf1 hl1 hz1); (try have hq1x0 : w.heap.size < w1.heap.size := (by omega)); (try have hq1x1 : w.heap.size + 1 < w1.heap.size := (by omega)); (try have hq1x2 : w.heap.size + 1 + 1 < w1.heap.size := (by omega))))
  all_goals
    go_wp2
    exact bodyPost_ret (v := b4 (mn a r) (mn b s) (mx c t) (mx d u)) (by simp [results, Try.results54, go_sem, *]) rfl ⟨rfl, bel_a⟩

end Go.Proofs.Ytbngdlbecdloiaa
namespace Go.Proofs.Ytbngdlbecdloiaa
set_option maxRecDepth 100000
def ordL : { l : List Char // Try.prog.initOrder = String.ofList l } := ⟨_, rfl⟩
theorem ordT : Try.prog.initOrder.toList = ordL.1 := (congrArg String.toList ordL.2).trans String.toList_ofList
theorem headE : ((behindMainWord (wordsSigns ordL.1)).head? == some "cut".toList) = true := by kernel_rfl
theorem makeT : Try.prog.make = some .cut := make_of ordT headE
theorem liftsFinalT : Try.prog.liftsFinal = false := liftsFinal_of ordT headE
theorem laysLaterT : Try.prog.laysLater = false := by kernel_rfl
theorem bearsReflectT : Try.prog.bearsReflect = false := by kernel_rfl
theorem doorFitsT : Try.prog.doorFits [] = true := by kernel_rfl
theorem mayEnterT : Try.prog.mayEnter = true := mayEnter_of ordT headE laysLaterT bearsReflectT doorFitsT
theorem ownT : ownKnob Try.prog.godebug = none := by kernel_rfl
theorem laidOutT : laidOutB Try.prog = true := by kernel_rfl
theorem mapsRowedT : mapsRowed Try.prog = true := by kernel_rfl
theorem stopsHeardT : Try.prog.stopsHeard = true := by kernel_rfl
theorem plainKeysT : Try.prog.plainKeys = true := by kernel_rfl
end Go.Proofs.Ytbngdlbecdloiaa
