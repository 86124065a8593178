/- Texts of numbers, read by the specification: whatever the text. -/
import Derived.Test.YteoegjginncffaaDoorFxIT
import Derived.Test.YteoegjginncffaaDoorFxP
import Derived.OpenShut
namespace Go.Proofs.YteoegjginncffaaDoor
open Go.RowKit Go.Lib
set_option linter.unusedVariables false
set_option linter.unusedSimpArgs false
theorem wf_i64w (n : Int) : (Lit.int .i64 (IntKind.i64.wrap n)).wf = true := Go.wf_wrap _ n
set_option maxHeartbeats 1000000 in
theorem l1Three_safe (s : ByteArray) (w : World) (hs : s.size ≤ 1048576) :
    Calls Tryd.prog 22 #[.string s] w fun e w' => ∃ v : Int, e = .returned (.int .i64 v) ∧ (Lit.int .i64 v).wf = true ∧ w' = w := by
  go_enter Tryd.func22, Tryd.ntmps22
  go_wp2
  go_loop [3, 4] (fun n i => ∃ (k : Nat) (x : Int), k ≤ s.size ∧ i = .int .i64 (k : Int) ∧ n = .int .i64 x ∧ (Lit.int .i64 x).wf = true) (fun _ i => s.size - (RowKit.intOf i).toNat)
  case atStart => exact ⟨0, 0, Nat.zero_le _, rfl, rfl, by decide⟩
  case round =>
    obtain ⟨k, x, hk, rfl, rfl, hx⟩ := hrel
    by_cases hlt : k < s.size
    · have hlt' : (k : Int) < (s.size : Int) := by omega
      go_wp2
      all_goals first
        | (go_ret; exact ⟨-1, rfl, by decide, rfl⟩)
        | (go_round
           case rel => exact ⟨k + 1, _, by omega, by go_num, rfl, by first | exact wrap64_wf _ | exact wf_i64w _⟩
           case measure => simp [RowKit.intOf]; omega)
    · go_wp2
      all_goals
        go_ret
        exact ⟨_, rfl, by first | exact hx | decide, rfl⟩
set_option maxHeartbeats 1000000 in
theorem l1Num_safe (s : ByteArray) (w : World) (hs : s.size ≤ 1048576) :
    Calls Tryd.prog 21 #[.string s] w fun e w' => ∃ v : Int, e = .returned (.int .i64 v) ∧ (Lit.int .i64 v).wf = true ∧ w' = w := by
  by_cases h0 : s.size = 0
  · have h0' : ((s.size : Int) == 0) = true := by simp [h0]
    clear h0
    go_enter Tryd.func21, Tryd.ntmps21
    go_wp2
    go_ret
    exact ⟨-1, rfl, by decide, rfl⟩
  · have h0' : ((s.size : Int) == 0) = false := by rw [beq_eq_false_iff_ne]; omega
    by_cases h9 : s.size ≤ 9
    · have h1 : 0 < s.size := by omega
      go_enter Tryd.func21, Tryd.ntmps21
      go_upto_region 1 with fail
      go_cut [22] (fun t wc => ∃ b, t = .bool b ∧ w = wc)
      case first =>
        by_cases h2 : 1 < s.size
        · have h2' : (1 : Int) < (s.size : Int) := by omega
          have h9' : ¬ ((9 : Int) < (s.size : Int)) := by omega
          go_wp2
          go_meet
          exact ⟨_, rfl, rfl⟩
        · have h2' : ¬ ((1 : Int) < (s.size : Int)) := by omega
          have h9' : ¬ ((9 : Int) < (s.size : Int)) := by omega
          go_wp2
          go_meet
          exact ⟨_, rfl, rfl⟩
      case rest =>
      obtain ⟨b, rfl, rfl⟩ := hcut
      cases b with
      | true =>
        go_wp2
        go_ret
        exact ⟨-1, rfl, by decide, rfl⟩
      | false =>
        go_wp2
        go_loop [3, 4] (fun n i => ∃ (k : Nat) (x : Int), k ≤ s.size ∧ i = .int .i64 (k : Int) ∧ n = .int .i64 x ∧ (Lit.int .i64 x).wf = true) (fun _ i => s.size - (RowKit.intOf i).toNat)
        case atStart => exact ⟨0, 0, Nat.zero_le _, rfl, rfl, by decide⟩
        case round =>
          obtain ⟨k, x, hk, rfl, rfl, hx⟩ := hrel
          by_cases hlt : k < s.size
          · have hlt' : (k : Int) < (s.size : Int) := by omega
            go_wp2
            all_goals first
              | (go_ret; exact ⟨-1, rfl, by decide, rfl⟩)
              | (go_round
                 case rel => exact ⟨k + 1, _, by omega, by go_num, rfl, by first | exact wrap64_wf _ | exact wf_i64w _⟩
                 case measure => simp [RowKit.intOf]; omega)
          · go_wp2
            all_goals
              go_ret
              exact ⟨_, rfl, by first | exact hx | decide, rfl⟩
    · go_enter Tryd.func21, Tryd.ntmps21
      go_wp2
      go_ret
      exact ⟨-1, rfl, by decide, rfl⟩

/-- the text is no number's -/
def NoTxt (t : ByteArray) : Prop := ∀ v : Int, (txtI (fc v) == t.toList) = false
set_option maxHeartbeats 2000000 in
theorem sRead_no (t : ByteArray) (w : World) (hs : t.size ≤ 1048576) (hno : NoTxt t) :
    Calls Tryd.prog 10 #[.string t] w fun e w' => e = .returned (.tuple #[.int .i64 0, .bool false]) ∧ Below w.heap.size w w' := by
  go_enter Tryd.func10, Tryd.ntmps10
  go_upto_region 2 with fail
  go_cut [17] (fun x wc => ∃ b, x = .bool b ∧ (b = true → 0 < t.size) ∧ w = wc)
  case first =>
    by_cases h0 : 0 < t.size
    · have h0' : (0 : Int) < (t.size : Int) := by omega
      go_wp2
      go_meet
      exact ⟨_, rfl, fun _ => h0, rfl⟩
    · have h0' : ¬ ((0 : Int) < (t.size : Int)) := by omega
      have h00 : t.size = 0 := by omega
      clear h0
      go_wp2
      go_meet
      exact ⟨false, rfl, (fun e => by cases e), rfl⟩
  case rest =>
  obtain ⟨b, rfl, hb0, rfl⟩ := hcut
  rename_i hKK
  refine hKK _ _ ?_
  go_cut [4] (fun x wc => ∃ s : ByteArray, x = .string s ∧ s.size ≤ 1048576 ∧ w = wc)
  case first =>
    cases b with
    | true =>
      have h0 := hb0 rfl
      have h0' : (1 : Int) ≤ (t.size : Int) := by omega
      go_wp2
      go_meet
      exact ⟨_, rfl, by rw [ByteArray.size_extract]; omega, rfl⟩
    | false =>
      go_wp2
      go_meet
      exact ⟨_, rfl, hs, rfl⟩
  case rest =>
  obtain ⟨s, rfl, hss, rfl⟩ := hcut
  go_wp2
  go_loopw [5] (fun i wr => ∃ k : Nat, k ≤ s.size ∧ i = .int .i64 (k : Int) ∧ Below w.heap.size w wr) (fun i _ => s.size - (RowKit.intOf i).toNat)
  case atStart => exact ⟨0, Nat.zero_le _, rfl, Below.refl _ _⟩
  case round =>
    obtain ⟨k, hk, rfl, hB⟩ := hrel
    by_cases hlt : k < s.size
    · have hlt' : (k : Int) < (s.size : Int) := by omega
      have hk1 : (k : Int) + 1 ≤ (s.size : Int) := by omega
      by_cases hd : (s[k].toNat : Int) = 46
      · have hd' : ((s[k].toNat : Int) == 46) = true := by simp [hd]
        clear hd
        have hno' : ∀ v : Int, (txtI (fc v) == t.toList) = false := hno
        go_wp2_with (first
          | (go_at_call 21; refine (l1Num_safe _ _ (by rw [ByteArray.size_extract]; omega)).mono ?_; rintro e w1 ⟨va, rfl, hva, rfl⟩)
          | (go_at_call 22; refine (l1Three_safe _ _ (by rw [ByteArray.size_extract]; omega)).mono ?_; rintro e w1 ⟨vb, rfl, hvb, rfl⟩)
          | (go_at_call 7; refine (sFixText_any _ _ (by first | exact wrap64_wf _ | exact wf_i64w _)).mono ?_; rintro e w2 ⟨rfl, hb2⟩))
        all_goals
          go_ret2
          exact ⟨rfl, by first | exact hB | exact hB.trans (hb2.mono hB.size)⟩
      · have hd' : ((s[k].toNat : Int) == 46) = false := by rw [beq_eq_false_iff_ne]; exact hd
        clear hd
        go_wp2
        go_roundw
        case rel => exact ⟨k + 1, by omega, by go_num, hB⟩
        case measure => simp [RowKit.intOf]; omega
    · go_wp2
      go_ret2
      exact ⟨rfl, hB⟩
end Go.Proofs.YteoegjginncffaaDoor
