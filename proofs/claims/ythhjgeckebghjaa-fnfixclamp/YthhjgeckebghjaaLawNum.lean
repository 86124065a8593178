/- The walks of the laws of chapter 1 over drawn numbers. -/
import Derived.Test.YthhjgeckebghjaaDrawNum
import Derived.Test.YthhjgeckebghjaaRoot
namespace Go.Proofs.Ythhjgeckebghjaa
open Go.RowKit
set_option linter.unusedVariables false

theorem drawFixClamp_any (a : Option Addr) (len cap : Nat) (w : World) (hb : Bytes w a len cap) :
    Calls Try.prog 38 #[.slice a len cap] w fun e w' => ∃ v : Int, e = .returned (.int .i64 v) ∧ -1099511627776 ≤ v ∧ v ≤ 1099511627776 ∧ Below w.heap.size w w' := by
  go_enter Try.func38, Try.ntmps38
  go_wp2_with (first
    | (go_at_call 99; refine (l1Open_rb _ _ _ _ hb).mono ?_; rintro e w1 ⟨rfl, hr1, hbel⟩)
    | (go_at_call 98; refine (l11Num_rb _ _ _ _ (by assumption) (by omega)).mono ?_; rintro e w2 ⟨v2, rfl, v20, v21, hr2⟩))
  go_ret
  exact ⟨_, rfl, v20, v21, RB.done hbel hr2⟩

set_option maxHeartbeats 1000000 in
theorem fnFixClamp_walk (a : Option Addr) (len cap : Nat) (w : World) (hb : Bytes w a len cap) :
    Calls Try.prog 3 #[.slice a len cap] w fun e w' => e = .returned (.bool true) ∧ Below w.heap.size w w' := by
  by_cases hlen : 1048576 < len
  · go_enter Try.func3, Try.ntmps3
    go_wp2
    go_ret
    exact ⟨rfl, Below.refl _ _⟩
  · go_enter Try.func3, Try.ntmps3
    go_wp2_with (first
      | (go_at_call 38; refine (drawFixClamp_any _ _ _ _ hb).mono ?_; rintro e w1 ⟨n, rfl, n0, n1, hbel⟩; have hx := fc_bd n; have hff := fc_fc n)
      | (go_at_call 39; refine (fixClamp_any _ _).mono ?_; rintro e w2 ⟨rfl, rfl⟩)
      | (go_at_call 40; refine (sFixClamp_any _ _).mono ?_; rintro e w2 ⟨rfl, rfl⟩))
    all_goals
      go_ret
      refine ⟨ret_bool ?_, hbel⟩
      rcases fc_cases n with ⟨h1, h2⟩ | ⟨h1, h2⟩ | ⟨h1, h2, h3⟩
      all_goals first | omega | (simp [*]; done) | (exfalso; omega)

theorem drawFixMul_any (a : Option Addr) (len cap : Nat) (w : World) (hb : Bytes w a len cap) :
    Calls Try.prog 41 #[.slice a len cap] w fun e w' => ∃ v u : Int, e = .returned (.tuple #[.int .i64 v, .int .i64 u]) ∧ -1099511627776 ≤ v ∧ v ≤ 1099511627776 ∧ -1099511627776 ≤ u ∧ u ≤ 1099511627776 ∧ Below w.heap.size w w' := by
  go_enter Try.func41, Try.ntmps41
  go_wp2_with (first
    | (go_at_call 99; refine (l1Open_rb _ _ _ _ hb).mono ?_; rintro e w1 ⟨rfl, hr1, hbel⟩)
    | (go_at_call 98; refine (l11Num_rb _ _ _ _ (by assumption) (by omega)).mono ?_; rintro e w2 ⟨v2, rfl, v20, v21, hr2⟩))
  go_ret2
  exact ⟨_, _, rfl, by assumption, by assumption, by assumption, by assumption, RB.done hbel hr2⟩

set_option maxHeartbeats 1000000 in
theorem fnFixMul_walk (a : Option Addr) (len cap : Nat) (w : World) (hb : Bytes w a len cap) :
    Calls Try.prog 4 #[.slice a len cap] w fun e w' => e = .returned (.bool true) ∧ Below w.heap.size w w' := by
  by_cases hlen : 1048576 < len
  · go_enter Try.func4, Try.ntmps4
    go_wp2
    go_ret
    exact ⟨rfl, Below.refl _ _⟩
  · go_enter Try.func4, Try.ntmps4
    go_wp2_with (first
      | (go_at_call 41; refine (drawFixMul_any _ _ _ _ hb).mono ?_; rintro e w1 ⟨n, m, rfl, n0, n1, m0, m1, hbel⟩; have hx := fc_bd n; have hy := fc_bd m; have f1 := fmul_comm n m; have f2 := fmul_one n; have f3 := fmul_zero (fc n); have f4 : fmul (-fc n) (fc m) = -fmul n m := by {rw [fmul_neg, fmul_fc]}; have f5 : fmul (-fc n) (-fc m) = fmul n m := by {rw [fmul_neg, fmul_comm, fmul_neg, fmul_fc, fmul_comm]; omega}; have f6 := fmul_bd n m)
      | (go_at_call 39; refine (fixClamp_any _ _).mono ?_; rintro e w2 ⟨rfl, rfl⟩)
      | (go_at_call 42; refine (fixMul_any _ _ _).mono ?_; rintro e w2 ⟨rfl, rfl⟩)
      | (go_at_call 43; refine (sFixMul_any _ _ _).mono ?_; rintro e w2 ⟨rfl, rfl⟩))
    all_goals
      go_ret
      refine ⟨ret_bool ?_, hbel⟩
      all_goals first | rfl | (simp [*]; done)

theorem pqAbs_any (n : Int) (w : World) (h : -9000000000000000000 ≤ n) (h' : n ≤ 9000000000000000000) :
    Calls Try.prog 47 #[.int .i64 n] w fun e w' => e = .returned (.int .i64 (absZ n)) ∧ w' = w := by
  go_enter Try.func47, Try.ntmps47
  go_wp2
  all_goals
    go_ret
    refine ⟨ret_int ?_, rfl⟩
    unfold absZ
    split <;> omega

theorem drawFixDiv_any (a : Option Addr) (len cap : Nat) (w : World) (hb : Bytes w a len cap) :
    Calls Try.prog 44 #[.slice a len cap] w fun e w' => ∃ v u : Int, e = .returned (.tuple #[.int .i64 v, .int .i64 u]) ∧ -1099511627776 ≤ v ∧ v ≤ 1099511627776 ∧ -1099511627776 ≤ u ∧ u ≤ 1099511627776 ∧ Below w.heap.size w w' := by
  go_enter Try.func44, Try.ntmps44
  go_wp2_with (go_at_call 41; refine (drawFixMul_any _ _ _ _ hb).mono ?_; rintro e w1 ⟨n, m, rfl, n0, n1, m0, m1, hbel⟩)
  go_ret2
  exact ⟨_, _, rfl, n0, n1, m0, m1, hbel⟩

theorem drawFixSqrt_any (a : Option Addr) (len cap : Nat) (w : World) (hb : Bytes w a len cap) :
    Calls Try.prog 48 #[.slice a len cap] w fun e w' => ∃ v : Int, e = .returned (.int .i64 v) ∧ -1099511627776 ≤ v ∧ v ≤ 1099511627776 ∧ Below w.heap.size w w' := by
  go_enter Try.func48, Try.ntmps48
  go_wp2_with (first
    | (go_at_call 99; refine (l1Open_rb _ _ _ _ hb).mono ?_; rintro e w1 ⟨rfl, hr1, hbel⟩)
    | (go_at_call 98; refine (l11Num_rb _ _ _ _ (by assumption) (by omega)).mono ?_; rintro e w2 ⟨v2, rfl, v20, v21, hr2⟩))
  go_ret
  exact ⟨_, rfl, v20, v21, RB.done hbel hr2⟩

set_option maxHeartbeats 2000000 in
theorem fnFixDiv_walk (a : Option Addr) (len cap : Nat) (w : World) (hb : Bytes w a len cap) :
    Calls Try.prog 5 #[.slice a len cap] w fun e w' => e = .returned (.bool true) ∧ Below w.heap.size w w' := by
  by_cases hlen : 1048576 < len
  · go_enter Try.func5, Try.ntmps5
    go_wp2
    go_ret
    exact ⟨rfl, Below.refl _ _⟩
  · go_enter Try.func5, Try.ntmps5
    go_wp2_with (go_at_call 44; refine (drawFixDiv_any _ _ _ _ hb).mono ?_; rintro e w1 ⟨n, m, rfl, n0, n1, m0, m1, hbel⟩; have hx := fc_bd n; have hy := fc_bd m; have hq := fdiv_bd n m; have f2 := fdiv_one n)
    by_cases hm0 : fc m = 0
    · have hz := fdiv_zero (a := n) hm0
      go_wp2_with (first
        | (go_at_call 39; refine (fixClamp_any _ _).mono ?_; rintro e w2 ⟨rfl, rfl⟩)
        | (go_at_call 45; refine (fixDiv_any _ _ _).mono ?_; rintro e w2 ⟨rfl, rfl⟩)
        | (go_at_call 46; refine (sFixDiv_any _ _ _).mono ?_; rintro e w2 ⟨rfl, rfl⟩)
        | (go_at_call 47; refine (pqAbs_any _ _ (by omega) (by omega)).mono ?_; rintro e w2 ⟨rfl, rfl⟩))
      all_goals
        go_ret
        refine ⟨ret_bool ?_, hbel⟩
        first | rfl | (simp; omega)
    · have hz : fc m ≠ 0 := hm0
      by_cases hfull : absZ (fdiv n m) = 1000000000
      · have g1 := fdiv_full hz hfull
        have b1 := absZ_bd hx
        have b2 := absZ_bd hy
        go_wp2_with (first
          | (go_at_call 39; refine (fixClamp_any _ _).mono ?_; rintro e w2 ⟨rfl, rfl⟩)
          | (go_at_call 45; refine (fixDiv_any _ _ _).mono ?_; rintro e w2 ⟨rfl, rfl⟩)
          | (go_at_call 46; refine (sFixDiv_any _ _ _).mono ?_; rintro e w2 ⟨rfl, rfl⟩)
          | (go_at_call 47; refine (pqAbs_any _ _ (by omega) (by omega)).mono ?_; rintro e w2 ⟨rfl, rfl⟩))
        go_ret
        refine ⟨ret_bool ?_, hbel⟩
        first | (simp; done) | (simp; omega)
      · have g1 := fdiv_rest hz hfull
        have g2 := tmod_abs (fc n * 256) hz
        have g3 := tmod_sign (fc n * 256) (fc m)
        have g4 := mul_bd hq hy
        go_wp2_with (first
          | (go_at_call 39; refine (fixClamp_any _ _).mono ?_; rintro e w2 ⟨rfl, rfl⟩)
          | (go_at_call 45; refine (fixDiv_any _ _ _).mono ?_; rintro e w2 ⟨rfl, rfl⟩)
          | (go_at_call 46; refine (sFixDiv_any _ _ _).mono ?_; rintro e w2 ⟨rfl, rfl⟩)
          | (go_at_call 47; refine (pqAbs_any _ _ (by omega) (by omega)).mono ?_; rintro e w2 ⟨rfl, rfl⟩))
        all_goals
          go_ret
          refine ⟨ret_bool ?_, hbel⟩
          first | rfl | (simp at *; omega)

set_option maxHeartbeats 2000000 in
theorem fnFixSqrt_walk (a : Option Addr) (len cap : Nat) (w : World) (hb : Bytes w a len cap) :
    Calls Try.prog 6 #[.slice a len cap] w fun e w' => e = .returned (.bool true) ∧ Below w.heap.size w w' := by
  by_cases hlen : 1048576 < len
  · go_enter Try.func6, Try.ntmps6
    go_wp2
    go_ret
    exact ⟨rfl, Below.refl _ _⟩
  · go_enter Try.func6, Try.ntmps6
    go_wp2_with (go_at_call 48; refine (drawFixSqrt_any _ _ _ _ hb).mono ?_; rintro e w1 ⟨n, rfl, n0, n1, hbel⟩; have hx := fc_bd n; have hff : fsqrt (fc n) = fsqrt n := by {unfold fsqrt; rw [fc_fc]})
    by_cases hn : fc n ≤ 0
    · have hs := fsqrt_le hn
      go_wp2_with (first
        | (go_at_call 49; refine (fixSqrt_any _ _).mono ?_; rintro e w2 ⟨rfl, hbel2⟩)
        | (go_at_call 40; refine (sFixClamp_any _ _).mono ?_; rintro e w3 ⟨rfl, rfl⟩)
        | (go_at_call 50; refine (sFixSqrt_any _ _).mono ?_; rintro e w3 ⟨rfl, rfl⟩))
      all_goals
        go_ret
        refine ⟨ret_bool ?_, hbel.trans (hbel2.mono hbel.size)⟩
        first | rfl | (simp; done) | (simp; omega)
    · obtain ⟨r0, r1, r2⟩ : IsRoot (fc n * 256) (fsqrt n) := rootZ_is (n := fc n * 256) (by omega)
      have r3 : fsqrt n ≤ 505964 := rootZ_le (n := fc n * 256) (B := 505964) (by omega) (by omega)
      have r4 := mul_bd (a := fsqrt n + 1) (b := fsqrt n + 1) (A := 505965) (B := 505965) (by omega) (by omega)
      have r5 := mul_bd (a := fsqrt n) (b := fsqrt n) (A := 505965) (B := 505965) (by omega) (by omega)
      go_wp2_with (first
        | (go_at_call 49; refine (fixSqrt_any _ _).mono ?_; rintro e w2 ⟨rfl, hbel2⟩)
        | (go_at_call 40; refine (sFixClamp_any _ _).mono ?_; rintro e w3 ⟨rfl, rfl⟩)
        | (go_at_call 50; refine (sFixSqrt_any _ _).mono ?_; rintro e w3 ⟨rfl, rfl⟩))
      all_goals
        go_ret
        refine ⟨ret_bool ?_, hbel.trans (hbel2.mono hbel.size)⟩
        first | rfl | (simp; done) | (simp; omega)
end Go.Proofs.Ythhjgeckebghjaa
