/- The contracts of quotients cut downwards and upwards, and of rays. -/
import Derived.Test.YtnkebpbpempmhaaShB
namespace Go.Proofs.Ytnkebpbpempmhaa
open Go.RowKit
set_option linter.unusedVariables false
set_option linter.unusedSimpArgs false

/-- a quotient, cut downwards -/
def downZ (n m : Int) : Int := if n.tdiv m * m ≠ n ∧ decide (n < 0) ≠ decide (m < 0) then n.tdiv m - 1 else n.tdiv m

theorem downZ_bd {n m B : Int} (h : -B ≤ n ∧ n ≤ B) : -B - 1 ≤ downZ n m ∧ downZ n m ≤ B := by
  have := tdiv_bd m h
  unfold downZ
  split <;> omega

set_option maxHeartbeats 1000000 in
theorem downOver_any (n m : Int) (w : World) (hn : -4000000000000 ≤ n ∧ n ≤ 4000000000000) (hm : -1000000000 ≤ m ∧ m ≤ 1000000000) (h0 : m ≠ 0) :
    Calls Try.prog 120 #[.int .i64 n, .int .i64 m] w fun e w' => e = .returned (.int .i64 (downZ n m)) ∧ w' = w := by
  have hq := tdiv_bd (x := n) (B := 4000000000000) m hn
  have hz : (m == 0) = false := by simp; exact h0
  have hk : n.tdiv m * m = n - n.tmod m := by have := Int.tdiv_mul_add_tmod n m; omega
  have hr : -4000000000000 ≤ n.tmod m ∧ n.tmod m ≤ 4000000000000 := by
    have q := tmod_abs n h0
    unfold absZ at q
    split at q <;> split at q <;> omega
  have hw1 := w64 (n := n.tdiv m) (by omega)
  have hw2 := w64 (n := n.tdiv m * m) (by omega)
  have hw3 := w64 (n := n.tdiv m - 1) (by omega)
  have hv1 := i64w (n := n.tdiv m) (by omega)
  have hv2 := i64w (n := n.tdiv m * m) (by omega)
  have hv3 := i64w (n := n.tdiv m - 1) (by omega)
  clear hk hr
  by_cases c1 : n.tdiv m * m = n
  · have e : downZ n m = n.tdiv m := by unfold downZ; rw [if_neg (fun q => q.1 c1)]
    rw [e]
    go_enter Try.func120, Try.ntmps120
    go_wp2
    all_goals
      go_ret
      exact ⟨rfl, rfl⟩
  · have d1 : (n.tdiv m * m == n) = false := by simp; exact c1
    by_cases c2 : n < 0
    · have d2 : decide (n < 0) = true := decide_eq_true c2
      by_cases c3 : m < 0
      · have d3 : decide (m < 0) = true := decide_eq_true c3
        have e : downZ n m = n.tdiv m := by unfold downZ; rw [if_neg (fun q => q.2 (by rw [d2, d3]))]
        rw [e]
        go_enter Try.func120, Try.ntmps120
        go_wp2
        all_goals
          go_ret
          exact ⟨rfl, rfl⟩
      · have d3 : decide (m < 0) = false := decide_eq_false c3
        have e : downZ n m = n.tdiv m - 1 := by unfold downZ; rw [if_pos ⟨c1, by rw [d2, d3]; decide⟩]
        rw [e]
        go_enter Try.func120, Try.ntmps120
        go_wp2
        all_goals
          go_ret
          exact ⟨rfl, rfl⟩
    · have d2 : decide (n < 0) = false := decide_eq_false c2
      by_cases c3 : m < 0
      · have d3 : decide (m < 0) = true := decide_eq_true c3
        have e : downZ n m = n.tdiv m - 1 := by unfold downZ; rw [if_pos ⟨c1, by rw [d2, d3]; decide⟩]
        rw [e]
        go_enter Try.func120, Try.ntmps120
        go_wp2
        all_goals
          go_ret
          exact ⟨rfl, rfl⟩
      · have d3 : decide (m < 0) = false := decide_eq_false c3
        have e : downZ n m = n.tdiv m := by unfold downZ; rw [if_neg (fun q => q.2 (by rw [d2, d3]))]
        rw [e]
        go_enter Try.func120, Try.ntmps120
        go_wp2
        all_goals
          go_ret
          exact ⟨rfl, rfl⟩

set_option maxHeartbeats 1000000 in
theorem upOver_any (n m : Int) (w : World) (hn : -3000000000000 ≤ n ∧ n ≤ 3000000000000) (hm : -1000000000 ≤ m ∧ m ≤ 1000000000) (h0 : m ≠ 0) :
    Calls Try.prog 121 #[.int .i64 n, .int .i64 m] w fun e w' => e = .returned (.int .i64 (-downZ (-n) m)) ∧ w' = w := by
  have hb := downZ_bd (n := -n) (m := m) (B := 3000000000000) (by omega)
  go_enter Try.func121, Try.ntmps121
  go_wp2_with (go_at_call 120; refine (downOver_any _ _ _ (by omega) (by omega) h0).mono ?_; rintro e w' ⟨rfl, rfl⟩)
  go_ret
  exact ⟨rfl, rfl⟩
end Go.Proofs.Ytnkebpbpempmhaa
