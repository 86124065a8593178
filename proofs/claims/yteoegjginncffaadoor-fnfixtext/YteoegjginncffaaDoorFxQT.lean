/- Texts of numbers, read by the specification: a number's own text. -/
import Derived.Test.YteoegjginncffaaDoorFxMT
namespace Go.Proofs.YteoegjginncffaaDoor
open Go.RowKit Go.Lib
set_option linter.unusedVariables false
set_option linter.unusedSimpArgs false
set_option maxHeartbeats 1000000 in
theorem l1Three_at (s : ByteArray) (w : World) (V : Nat → Nat) (v0 : V 0 = 0) (vS : ∀ k (h : k < s.size), V (k + 1) = V k * 10 + (s[k].toNat - 48))
    (hd : ∀ k (h : k < s.size), 48 ≤ s[k].toNat ∧ s[k].toNat ≤ 57) (hb : ∀ k, k ≤ s.size → V k ≤ 1000000000) (h3 : s.size = 3) :
    Calls Tryd.prog 22 #[.string s] w fun e w' => e = .returned (.int .i64 (V s.size)) ∧ w' = w := by
  have h3' : ((s.size : Int) == 3) = true := by simp [h3]
  have hs : s.size ≤ 9 := by omega
  clear h3
  go_enter Tryd.func22, Tryd.ntmps22
  go_wp2
  go_loop [3, 4] (fun n i => ∃ (k : Nat), k ≤ s.size ∧ i = .int .i64 (k : Int) ∧ n = .int .i64 (V k : Int)) (fun _ i => s.size - (RowKit.intOf i).toNat)
  case atStart => exact ⟨0, Nat.zero_le _, rfl, by rw [v0]; rfl⟩
  case round =>
    obtain ⟨k, hk, rfl, rfl⟩ := hrel
    by_cases hlt : k < s.size
    · have hlt' : (k : Int) < (s.size : Int) := by omega
      have d1 := hd k hlt
      have b1 := hb k hk
      have b2 := hb (k + 1) hlt
      have b3 := vS k hlt
      have d2 : ¬ ((s[k].toNat : Int) < 48) := by omega
      have d3 : ¬ ((57 : Int) < (s[k].toNat : Int)) := by omega
      go_wp2
      go_round
      case rel =>
        refine ⟨k + 1, by omega, by go_num, ?_⟩
        have e : ((V k : Nat) : Int) * 10 + ((s[k].toNat : Int) - 48) = ((V (k + 1) : Nat) : Int) := by omega
        rw [e]
      case measure => simp [RowKit.intOf]; omega
    · have hks : k = s.size := by omega
      subst hks
      go_wp2
      go_ret
      exact ⟨rfl, rfl⟩
set_option maxHeartbeats 1000000 in
theorem l1Num_at (s : ByteArray) (w : World) (V : Nat → Nat) (v0 : V 0 = 0) (vS : ∀ k (h : k < s.size), V (k + 1) = V k * 10 + (s[k].toNat - 48))
    (hd : ∀ k (h : k < s.size), 48 ≤ s[k].toNat ∧ s[k].toNat ≤ 57) (hb : ∀ k, k ≤ s.size → V k ≤ 1000000000) (h1 : 0 < s.size) (h9 : s.size ≤ 9) (hz : 1 < s.size → s[0].toNat ≠ 48) :
    Calls Tryd.prog 21 #[.string s] w fun e w' => e = .returned (.int .i64 (V s.size)) ∧ w' = w := by
  have h0' : ((s.size : Int) == 0) = false := by rw [beq_eq_false_iff_ne]; omega
  go_enter Tryd.func21, Tryd.ntmps21
  go_upto_region 1 with fail
  go_cut [22] (fun t wc => t = .bool false ∧ w = wc)
  case first =>
    by_cases h2 : 1 < s.size
    · have h2' : (1 : Int) < (s.size : Int) := by omega
      have h9' : ¬ ((9 : Int) < (s.size : Int)) := by omega
      have hz' : ((s[0].toNat : Int) == 48) = false := by rw [beq_eq_false_iff_ne]; have := hz h2; omega
      go_wp2
      go_meet
      exact ⟨rfl, rfl⟩
    · have h2' : ¬ ((1 : Int) < (s.size : Int)) := by omega
      have h9' : ¬ ((9 : Int) < (s.size : Int)) := by omega
      go_wp2
      go_meet
      exact ⟨rfl, rfl⟩
  case rest =>
  obtain ⟨rfl, rfl⟩ := hcut
  go_wp2
  go_loop [3, 4] (fun n i => ∃ (k : Nat), k ≤ s.size ∧ i = .int .i64 (k : Int) ∧ n = .int .i64 (V k : Int)) (fun _ i => s.size - (RowKit.intOf i).toNat)
  case atStart => exact ⟨0, Nat.zero_le _, rfl, by rw [v0]; rfl⟩
  case round =>
    obtain ⟨k, hk, rfl, rfl⟩ := hrel
    by_cases hlt : k < s.size
    · have hlt' : (k : Int) < (s.size : Int) := by omega
      have d1 := hd k hlt
      have b1 := hb k hk
      have b2 := hb (k + 1) hlt
      have b3 := vS k hlt
      have d2 : ¬ ((s[k].toNat : Int) < 48) := by omega
      have d3 : ¬ ((57 : Int) < (s[k].toNat : Int)) := by omega
      go_wp2
      go_round
      case rel =>
        refine ⟨k + 1, by omega, by go_num, ?_⟩
        have e : ((V k : Nat) : Int) * 10 + ((s[k].toNat : Int) - 48) = ((V (k + 1) : Nat) : Int) := by omega
        rw [e]
      case measure => simp [RowKit.intOf]; omega
    · have hks : k = s.size := by omega
      subst hks
      go_wp2
      go_ret
      exact ⟨rfl, rfl⟩
theorem valF_take (l : List UInt8) (k : Nat) (h : k < l.length) : valF 0 (l.take (k + 1)) = valF 0 (l.take k) * 10 + (l[k].toNat - 48) := by
  rw [List.take_succ_eq_append_getElem h, valF_snoc]
theorem valF_up (l : List UInt8) (k : Nat) (acc : Nat) : valF acc (l.take k) ≤ valF acc l := by
  have e : valF acc l = valF (valF acc (l.take k)) (l.drop k) := by
    unfold valF
    rw [← List.foldl_append, List.take_append_drop]
  rw [e]
  exact valF_ge _ _
theorem three_yes {m : Nat} (h : m < 1000) (w : World) : Calls Tryd.prog 22 #[str (pad3 m)] w fun e w' => e = .returned (.int .i64 m) ∧ w' = w := by
  obtain ⟨q1, q2⟩ := pad_val h
  have q := l1Three_at ⟨(pad3 m).toArray⟩ w (fun k => valF 0 ((pad3 m).take k)) rfl (fun k hk => valF_take (pad3 m) k hk) (fun k hk => q2 _ (List.getElem_mem hk)) (fun k hk => Nat.le_trans (valF_up _ _ _) (by rw [q1]; omega)) rfl
  have e : valF 0 ((pad3 m).take (⟨(pad3 m).toArray⟩ : ByteArray).size) = m := by
    show valF 0 ((pad3 m).take 3) = m
    exact q1
  rw [e] at q
  exact q
theorem dec_head (d : Nat) : 1 < (decDigits d).length → ∀ h : 0 < (decDigits d).length, ((decDigits d)[0]).toNat ≠ 48 := by
  induction d using Nat.strongRecOn with
  | _ d ih =>
    by_cases h : d < 10
    · intro h1; rw [dec1 h] at h1; simp at h1
    · intro _ h0
      have hp : 0 < (decDigits (d / 10)).length := List.length_pos_iff.2 (dec_val (d / 10)).2.2
      have e : (decDigits d)[0] = (decDigits (d / 10))[0] := by
        simp only [decS h]
        exact List.getElem_append_left hp
      rw [e]
      by_cases h2 : d / 10 < 10
      · simp only [dec1 h2, List.getElem_cons_zero, fig_nat h2]; omega
      · exact ih (d / 10) (by omega) (by rw [decS h2, List.length_append]; have := List.length_pos_iff.2 (dec_val (d / 10 / 10)).2.2; simp; omega) hp
theorem num_yes {d : Nat} (h : d ≤ 3906250) (w : World) : Calls Tryd.prog 21 #[str (decDigits d)] w fun e w' => e = .returned (.int .i64 d) ∧ w' = w := by
  obtain ⟨q1, q2, q3⟩ := dec_val d
  have hl := dec_fig 6 d (by omega)
  have q := l1Num_at ⟨(decDigits d).toArray⟩ w (fun k => valF 0 ((decDigits d).take k)) rfl (fun k hk => valF_take (decDigits d) k hk) (fun k hk => q2 _ (List.getElem_mem hk)) (fun k hk => Nat.le_trans (valF_up _ _ _) (by rw [q1]; omega)) (List.length_pos_iff.2 q3) (Nat.le_trans hl (by decide)) (fun h1 => dec_head d h1 _)
  have e : valF 0 ((decDigits d).take (⟨(decDigits d).toArray⟩ : ByteArray).size) = d := by
    show valF 0 ((decDigits d).take (decDigits d).length) = d
    rw [List.take_length]
    exact q1
  rw [e] at q
  exact q
end Go.Proofs.YteoegjginncffaaDoor
