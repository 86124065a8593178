/- The specification's rays. -/
import Derived.Test.YtnkebpbpempmhaaRayOf
import Derived.Test.YtnkebpbpempmhaaSBase
import Derived.Test.YtnkebpbpempmhaaSBox
import Derived.Deep.RegionHeld3
import Derived.Deep.DeepCutAuto
namespace Go.Proofs.Ytnkebpbpempmhaa
open Go.RowKit
set_option linter.unusedVariables false
set_option linter.unusedSimpArgs false

set_option maxHeartbeats 1000000 in
theorem l5Down_any (n m : Int) (w : World) (hn : -4000000000000 ≤ n ∧ n ≤ 4000000000000) (hm : -1000000000 ≤ m ∧ m ≤ 1000000000) (h0 : m ≠ 0) :
    Calls Try.prog 122 #[.int .i64 n, .int .i64 m] w fun e w' => e = .returned (.int .i64 (downZ n m)) ∧ w' = w := by
  have hq := tdiv_bd (x := n) (B := 4000000000000) m hn
  have hz : (m == 0) = false := by simp; exact h0
  have hk : n.tdiv m * m = n - n.tmod m := by have := Int.tdiv_mul_add_tmod n m; omega
  have hw1 := w64 (n := n.tdiv m) (by omega)
  have hw3 := w64 (n := n.tdiv m - 1) (by omega)
  have hv1 := i64w (n := n.tdiv m) (by omega)
  have hv3 := i64w (n := n.tdiv m - 1) (by omega)
  by_cases c1 : n.tmod m = 0
  · have d1 : (n.tmod m == 0) = true := by simp [c1]
    have e : downZ n m = n.tdiv m := by unfold downZ; rw [if_neg (fun q => q.1 (by omega))]
    clear hk
    rw [e]
    go_enter Try.func122, Try.ntmps122
    go_wp2
    all_goals first | (go_ret; exact ⟨rfl, rfl⟩) | (exfalso; omega)
  · have d1 : (n.tmod m == 0) = false := by simp; exact c1
    have c9 : n.tdiv m * m ≠ n := by omega
    have c8 : m ≠ -1 := by intro q; apply c1; subst q; rw [Int.tmod_neg, Int.tmod_one]
    clear hk
    by_cases c2 : n < 0
    · have d2 : decide (n < 0) = true := decide_eq_true c2
      by_cases c3 : m < 0
      · have d3 : decide (m < 0) = true := decide_eq_true c3
        have e : downZ n m = n.tdiv m := by unfold downZ; rw [if_neg (fun q => q.2 (by rw [d2, d3]))]
        rw [e]
        go_enter Try.func122, Try.ntmps122
        go_wp2
        all_goals first | (go_ret; exact ⟨rfl, rfl⟩) | (exfalso; omega)
      · have d3 : decide (m < 0) = false := decide_eq_false c3
        have e : downZ n m = n.tdiv m - 1 := by unfold downZ; rw [if_pos ⟨c9, by rw [d2, d3]; decide⟩]
        rw [e]
        go_enter Try.func122, Try.ntmps122
        go_wp2
        all_goals first | (go_ret; exact ⟨rfl, rfl⟩) | (exfalso; omega)
    · have d2 : decide (n < 0) = false := decide_eq_false c2
      have d7 : ¬ n % m = 0 := by rw [← Int.tmod_eq_emod_of_nonneg (by omega)]; exact c1
      by_cases c3 : m < 0
      · have d3 : decide (m < 0) = true := decide_eq_true c3
        have e : downZ n m = n.tdiv m - 1 := by unfold downZ; rw [if_pos ⟨c9, by rw [d2, d3]; decide⟩]
        rw [e]
        go_enter Try.func122, Try.ntmps122
        go_wp2
        all_goals first | (go_ret; exact ⟨rfl, rfl⟩) | (exfalso; omega)
      · have d3 : decide (m < 0) = false := decide_eq_false c3
        have e : downZ n m = n.tdiv m := by unfold downZ; rw [if_neg (fun q => q.2 (by rw [d2, d3]))]
        rw [e]
        go_enter Try.func122, Try.ntmps122
        go_wp2
        all_goals first | (go_ret; exact ⟨rfl, rfl⟩) | (exfalso; omega)

set_option maxHeartbeats 2000000 in
theorem l5Slab_any (f g l h a b : Int) (w : World) (hf : -3000000 ≤ f ∧ f ≤ 3000000) (hg : -3000000 ≤ g ∧ g ≤ 3000000) (hl : -3000000 ≤ l ∧ l ≤ 3000000) (hh : -3000000 ≤ h ∧ h ≤ 3000000) (ha : 0 ≤ a) (hb : b ≤ 256) (hab : a ≤ b) :
    Calls Try.prog 104 #[.int .i64 f, .int .i64 g, .int .i64 l, .int .i64 h, .int .i64 a, .int .i64 b] w fun e w' => e = .returned (.tuple #[.int .i64 (msF a (btA f g l h)), .int .i64 (msL b (btB f g l h)), .bool (btC f g l h && !decide (msL b (btB f g l h) < msF a (btA f g l h)))]) ∧ w' = w := by
  by_cases c0 : g = 0
  · have d0 : (g == 0) = true := by simp [c0]
    have eA : msF a (btA f g l h) = a := by unfold msF btA; rw [if_pos c0, if_neg (by omega)]
    have eB : msL b (btB f g l h) = b := by unfold msL btB; rw [if_pos c0, if_neg (by omega)]
    have eC : btC f g l h = (decide (l ≤ f) && decide (f ≤ h)) := by unfold btC; rw [if_pos c0, Bool.decide_and]
    rw [eA, eB, eC, decide_eq_false (show ¬ b < a by omega), Bool.not_false, Bool.and_true]
    clear eA eB eC c0
    go_enter Try.func104, Try.ntmps104
    go_wp2_with (first
    | (go_at_call 122; refine (l5Down_any _ _ _ (by omega) (by omega) (by omega)).mono ?_; rintro e w' ⟨rfl, rfl⟩)
    | (go_at_call 44; refine (l3Less_any _ _ _).mono ?_; rintro e w' ⟨rfl, rfl⟩)
    | (go_at_call 45; refine (l3More_any _ _ _).mono ?_; rintro e w' ⟨rfl, rfl⟩)
    | (go_at_call 65; refine (l1In_any _ _ _ _).mono ?_; rintro e w' ⟨rfl, rfl⟩))
    go_ret3
    exact ⟨rfl, rfl⟩
  · have d0 : (g == 0) = false := by simp [c0]
    by_cases c1 : g < 0
    · have d1 : decide (g < 0) = true := decide_eq_true c1
      have b1 := downZ_bd (n := (h - f) * 256) (m := g) (B := 2000000000) (by omega)
      have b2 := downZ_bd (n := (f - l) * 256) (m := g) (B := 2000000000) (by omega)
      have eA : btA f g l h = downZ ((h - f) * 256) g := by unfold btA; rw [if_neg c0, if_pos c1]
      have eB : btB f g l h = -downZ ((f - l) * 256) g := by unfold btB; rw [if_neg c0, if_pos c1, show -((l - f) * 256) = (f - l) * 256 by omega]
      have eC : btC f g l h = true := by unfold btC; rw [if_neg c0]
      have eK : (btC f g l h && !decide (msL b (btB f g l h) < msF a (btA f g l h))) = decide (msF a (btA f g l h) ≤ msL b (btB f g l h)) := by rw [eC, Bool.eq_iff_iff]; simp
      rw [eK, eA, eB]
      show Calls Try.prog 104 #[.int .i64 f, .int .i64 g, .int .i64 l, .int .i64 h, .int .i64 a, .int .i64 b] w fun e w' => e = .returned (.tuple #[.int .i64 (mx a (downZ ((h - f) * 256) g)), .int .i64 (mn b (-downZ ((f - l) * 256) g)), .bool (decide (mx a (downZ ((h - f) * 256) g) ≤ mn b (-downZ ((f - l) * 256) g)))]) ∧ w' = w
      clear eK eA eB eC
      go_enter Try.func104, Try.ntmps104
      go_wp2_with (first
    | (go_at_call 122; refine (l5Down_any _ _ _ (by omega) (by omega) (by omega)).mono ?_; rintro e w' ⟨rfl, rfl⟩)
    | (go_at_call 44; refine (l3Less_any _ _ _).mono ?_; rintro e w' ⟨rfl, rfl⟩)
    | (go_at_call 45; refine (l3More_any _ _ _).mono ?_; rintro e w' ⟨rfl, rfl⟩)
    | (go_at_call 65; refine (l1In_any _ _ _ _).mono ?_; rintro e w' ⟨rfl, rfl⟩))
      go_ret3
      exact ⟨rfl, rfl⟩
    · have d1 : decide (g < 0) = false := decide_eq_false c1
      have b1 := downZ_bd (n := (l - f) * 256) (m := g) (B := 2000000000) (by omega)
      have b2 := downZ_bd (n := (f - h) * 256) (m := g) (B := 2000000000) (by omega)
      have eA : btA f g l h = downZ ((l - f) * 256) g := by unfold btA; rw [if_neg c0, if_neg c1]
      have eB : btB f g l h = -downZ ((f - h) * 256) g := by unfold btB; rw [if_neg c0, if_neg c1, show -((h - f) * 256) = (f - h) * 256 by omega]
      have eC : btC f g l h = true := by unfold btC; rw [if_neg c0]
      have eK : (btC f g l h && !decide (msL b (btB f g l h) < msF a (btA f g l h))) = decide (msF a (btA f g l h) ≤ msL b (btB f g l h)) := by rw [eC, Bool.eq_iff_iff]; simp
      rw [eK, eA, eB]
      show Calls Try.prog 104 #[.int .i64 f, .int .i64 g, .int .i64 l, .int .i64 h, .int .i64 a, .int .i64 b] w fun e w' => e = .returned (.tuple #[.int .i64 (mx a (downZ ((l - f) * 256) g)), .int .i64 (mn b (-downZ ((f - h) * 256) g)), .bool (decide (mx a (downZ ((l - f) * 256) g) ≤ mn b (-downZ ((f - h) * 256) g)))]) ∧ w' = w
      clear eK eA eB eC
      go_enter Try.func104, Try.ntmps104
      go_wp2_with (first
    | (go_at_call 122; refine (l5Down_any _ _ _ (by omega) (by omega) (by omega)).mono ?_; rintro e w' ⟨rfl, rfl⟩)
    | (go_at_call 44; refine (l3Less_any _ _ _).mono ?_; rintro e w' ⟨rfl, rfl⟩)
    | (go_at_call 45; refine (l3More_any _ _ _).mono ?_; rintro e w' ⟨rfl, rfl⟩)
    | (go_at_call 65; refine (l1In_any _ _ _ _).mono ?_; rintro e w' ⟨rfl, rfl⟩))
      go_ret3
      exact ⟨rfl, rfl⟩
end Go.Proofs.Ytnkebpbpempmhaa
