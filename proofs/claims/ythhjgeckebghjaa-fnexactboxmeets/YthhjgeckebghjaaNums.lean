/- The contracts of the number functions of chapter 1, each for every argument of its domain. -/
import Derived.Test.YthhjgeckebghjaaRows
import Derived.Test.YthhjgeckebghjaaPlain
import Derived.Test.YthhjgeckebghjaaMem
import Derived.WalkKit
import Derived.WalkSpells
import Derived.WalkLawsBesides
namespace Go.Proofs.Ythhjgeckebghjaa
open Go.RowKit

theorem held_any (n l : Int) (w : World) (h0 : 0 ≤ l) (h1 : l ≤ 4000000000) :
    Calls Try.prog 117 #[.int .i64 n, .int .i64 l] w fun e w' => e = .returned (.int .i64 (clampZ l n)) ∧ w' = w := by
  go_enter Try.func117, Try.ntmps117
  go_wp2
  all_goals
    go_ret
    refine ⟨ret_int ?_, rfl⟩
    unfold clampZ
    repeat' split
    all_goals (repeat' split at *) <;> omega

theorem fixOf_any (n : Int) (w : World) :
    Calls Try.prog 100 #[.int .i64 n] w fun e w' => e = .returned (.int .i64 (fc n)) ∧ w' = w := by
  go_enter Try.func100, Try.ntmps100
  go_wp2_with (go_at_call 117; refine (held_any _ _ _ (by decide) (by decide)).mono ?_; rintro e w' ⟨rfl, rfl⟩)
  go_ret
  exact ⟨rfl, rfl⟩

theorem fixClamp_any (n : Int) (w : World) :
    Calls Try.prog 39 #[.int .i64 n] w fun e w' => e = .returned (.int .i64 (fc n)) ∧ w' = w := by
  go_enter Try.func39, Try.ntmps39
  go_wp2_with (go_at_call 100; refine (fixOf_any _ _).mono ?_; rintro e w' ⟨rfl, rfl⟩)
  go_ret
  exact ⟨rfl, rfl⟩

theorem sFixClamp_any (n : Int) (w : World) :
    Calls Try.prog 40 #[.int .i64 n] w fun e w' => e = .returned (.int .i64 (fc n)) ∧ w' = w := by
  go_enter Try.func40, Try.ntmps40
  go_wp2
  all_goals
    go_ret
    refine ⟨ret_int ?_, rfl⟩
    unfold fc clampZ
    repeat' split
    all_goals omega

theorem times_any (n m : Int) (w : World) (hn : -1000000000 ≤ n ∧ n ≤ 1000000000) (hm : -1000000000 ≤ m ∧ m ≤ 1000000000) :
    Calls Try.prog 101 #[.int .i64 n, .int .i64 m] w fun e w' => e = .returned (.int .i64 (fc ((n * m).tdiv 256))) ∧ w' = w := by
  have hp := mul_bd hn hm
  obtain ⟨p1, p2⟩ := hp
  go_enter Try.func101, Try.ntmps101
  go_wp2_with (go_at_call 117; refine (held_any _ _ _ (by decide) (by decide)).mono ?_; rintro e w' ⟨rfl, rfl⟩)
  go_ret
  exact ⟨rfl, rfl⟩

theorem over_any (n m : Int) (w : World) (hn : -1000000000 ≤ n ∧ n ≤ 1000000000) (hm : -1000000000 ≤ m ∧ m ≤ 1000000000) :
    Calls Try.prog 102 #[.int .i64 n, .int .i64 m] w fun e w' => e = .returned (.int .i64 (if m = 0 then fc (n * 1000000000) else fc ((n * 256).tdiv m))) ∧ w' = w := by
  by_cases h0 : m = 0
  · subst h0
    go_enter Try.func102, Try.ntmps102
    go_wp2_with (go_at_call 117; refine (held_any _ _ _ (by decide) (by decide)).mono ?_; rintro e w' ⟨rfl, rfl⟩)
    all_goals
      go_ret
      refine ⟨ret_int ?_, rfl⟩
      unfold fc clampZ
      repeat' split
      all_goals omega
  · go_enter Try.func102, Try.ntmps102
    go_wp2_with (go_at_call 117; refine (held_any _ _ _ (by decide) (by decide)).mono ?_; rintro e w' ⟨rfl, rfl⟩)
    go_ret
    refine ⟨ret_int ?_, rfl⟩
    rw [w64 (by have := tdiv_bd (x := n * 256) (B := 256000000000) m (by omega); omega)]
    rfl

theorem fixMul_any (a b : Int) (w : World) :
    Calls Try.prog 42 #[.int .i64 a, .int .i64 b] w fun e w' => e = .returned (.int .i64 (fmul a b)) ∧ w' = w := by
  have ha := fc_bd a
  have hb := fc_bd b
  go_enter Try.func42, Try.ntmps42
  go_wp2_with (first | (go_at_call 100; refine (fixOf_any _ _).mono ?_; rintro e w' ⟨rfl, rfl⟩) | (go_at_call 101; refine (times_any _ _ _ (fc_bd _) (fc_bd _)).mono ?_; rintro e w' ⟨rfl, rfl⟩))
  go_ret
  exact ⟨rfl, rfl⟩

theorem fixDiv_any (a b : Int) (w : World) :
    Calls Try.prog 45 #[.int .i64 a, .int .i64 b] w fun e w' => e = .returned (.int .i64 (fdiv a b)) ∧ w' = w := by
  have ha := fc_bd a
  have hb := fc_bd b
  go_enter Try.func45, Try.ntmps45
  go_wp2_with (first | (go_at_call 100; refine (fixOf_any _ _).mono ?_; rintro e w' ⟨rfl, rfl⟩) | (go_at_call 102; refine (over_any _ _ _ (fc_bd _) (fc_bd _)).mono ?_; rintro e w' ⟨rfl, rfl⟩))
  all_goals
    go_ret
    exact ⟨ret_int (by unfold fdiv; first | rw [if_pos ‹_›] | rw [if_neg ‹_›]), rfl⟩

theorem sFixMul_any (a b : Int) (w : World) :
    Calls Try.prog 43 #[.int .i64 a, .int .i64 b] w fun e w' => e = .returned (.int .i64 (fmul a b)) ∧ w' = w := by
  have hp := fc_mul_bd a b
  obtain ⟨p1, p2⟩ := hp
  go_enter Try.func43, Try.ntmps43
  go_wp2_with (go_at_call 40; refine (sFixClamp_any _ _).mono ?_; rintro e w' ⟨rfl, rfl⟩)
  go_ret
  exact ⟨rfl, rfl⟩

theorem sFixDiv_any (a b : Int) (w : World) :
    Calls Try.prog 46 #[.int .i64 a, .int .i64 b] w fun e w' => e = .returned (.int .i64 (fdiv a b)) ∧ w' = w := by
  have ha := fc_bd a
  by_cases h0 : fc b = 0
  · go_enter Try.func46, Try.ntmps46
    go_wp2_with (go_at_call 40; refine (sFixClamp_any _ _).mono ?_; rintro e w' ⟨rfl, rfl⟩)
    go_ret
    exact ⟨ret_int (by unfold fdiv; rw [if_pos h0]), rfl⟩
  · go_enter Try.func46, Try.ntmps46
    go_wp2_with (go_at_call 40; refine (sFixClamp_any _ _).mono ?_; rintro e w' ⟨rfl, rfl⟩)
    go_ret
    refine ⟨ret_int ?_, rfl⟩
    rw [w64 (by have := tdiv_bd (x := fc a * 256) (B := 256000000000) (fc b) (by omega); omega)]
    unfold fdiv
    rw [if_neg h0]

end Go.Proofs.Ythhjgeckebghjaa
