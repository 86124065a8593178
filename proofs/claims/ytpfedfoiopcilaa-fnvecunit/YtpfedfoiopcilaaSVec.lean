/- The contracts of the specification's ways. -/
import Derived.Test.YtpfedfoiopcilaaVec
import Derived.Deep.QuietTactic
import Derived.BigQuiet
import Derived.Deep.RegionWith
namespace Go.Proofs.Ytpfedfoiopcilaa
open Go.RowKit
set_option linter.unusedVariables false
set_option linter.unusedSimpArgs false

set_option maxHeartbeats 1000000 in
theorem l2Clamp_any (x y : Int) (w : World) :
    Calls Try.prog 77 #[vv x y] w fun e w' => e = .returned (vv (fc x) (fc y)) ∧ Below w.heap.size w w' := by
  have hset := cset_map
  go_enter Try.func77, Try.ntmps77
  go_wp2
  go_region_with (go_at_call 89; refine (sFixClamp_any _ _).mono ?_; rintro e w' ⟨rfl, rfl⟩)
  all_goals
    go_wp2
    exact bodyPost_ret (v := vv (fc x) (fc y)) (by simp [results, Try.results77, go_sem, *]) rfl ⟨rfl, by repeat (first | exact Below.refl _ _ | refine Below.setCell ?_ (by first | (simp; done) | (simp; omega)) _ | refine Below.alloc ?_ (by first | (simp; done) | (simp; omega)) _ | refine Below.drew ?_ | refine belowDrewN ?_ _ | refine Below.trans ?_ (Below.mono (by assumption) (by first | (simp; done) | (simp; omega) | omega)))⟩

theorem l1In_any (n l h : Int) (w : World) :
    Calls Try.prog 80 #[.int .i64 n, .int .i64 l, .int .i64 h] w fun e w' => e = .returned (.bool (decide (l ≤ n ∧ n ≤ h))) ∧ w' = w := by
  go_enter Try.func80, Try.ntmps80
  go_wp2
  all_goals
    go_ret
    refine ⟨ret_bool ?_, rfl⟩
    first | (simp; omega) | (simp; done)

theorem sVecOk_any (x y : Int) (w : World) :
    Calls Try.prog 25 #[vv x y] w fun e w' => e = .returned (.bool (vokB x y)) ∧ Below w.heap.size w w' := by
  have hset := cset_map
  go_enter Try.func25, Try.ntmps25
  go_wp2_with (go_at_call 80; refine (l1In_any _ _ _ _).mono ?_; rintro e w' ⟨rfl, rfl⟩)
  all_goals
    go_ret
    refine ⟨ret_bool ?_, by repeat (first | exact Below.refl _ _ | refine Below.setCell ?_ (by first | (simp; done) | (simp; omega)) _ | refine Below.alloc ?_ (by first | (simp; done) | (simp; omega)) _ | refine Below.drew ?_ | refine belowDrewN ?_ _ | refine Below.trans ?_ (Below.mono (by assumption) (by first | (simp; done) | (simp; omega) | omega)))⟩
    unfold vokB
    first | (simp; omega) | (simp [*]; done) | (simp at *; omega)

set_option maxHeartbeats 1000000 in
theorem sVecAdd_any (x y u v : Int) (w : World) :
    Calls Try.prog 23 #[vv x y, vv u v] w fun e w' => e = .returned (vv (fc (fc x + fc u)) (fc (fc y + fc v))) ∧ Below w.heap.size w w' := by
  have hx := fc_bd x
  have hy := fc_bd y
  have hu := fc_bd u
  have hv := fc_bd v
  have hset := cset_map
  go_enter Try.func23, Try.ntmps23
  go_wp2_with (go_at_call 77; refine (l2Clamp_any _ _ _).mono ?_; rintro e w1 ⟨rfl, hb1⟩; obtain ⟨hc1, hf1⟩ := bcell hb1; have hz1 := hb1.size; (try simp at hz1); have hq1x0a : w.heap.size < w1.heap.size := (by omega); have hq1x1a : w.heap.size + 1 < w1.heap.size := (by omega); have hq1x2a : w.heap.size + 1 + 1 < w1.heap.size := (by omega); have hq1x2b : w.heap.size + 2 < w1.heap.size := (by omega))
  exact bodyPost_ret (v := vv (fc (fc x + fc u)) (fc (fc y + fc v))) (by simp [results, Try.results23, go_sem, *]) rfl ⟨rfl, by repeat (first | exact Below.refl _ _ | refine Below.setCell ?_ (by first | (simp; done) | (simp; omega)) _ | refine Below.alloc ?_ (by first | (simp; done) | (simp; omega)) _ | refine Below.drew ?_ | refine belowDrewN ?_ _ | refine Below.trans ?_ (Below.mono (by assumption) (by first | (simp; done) | (simp; omega) | omega)))⟩

set_option maxHeartbeats 1000000 in
theorem sVecSub_any (x y u v : Int) (w : World) :
    Calls Try.prog 28 #[vv x y, vv u v] w fun e w' => e = .returned (vv (fc (fc x - fc u)) (fc (fc y - fc v))) ∧ Below w.heap.size w w' := by
  have hx := fc_bd x
  have hy := fc_bd y
  have hu := fc_bd u
  have hv := fc_bd v
  have hset := cset_map
  go_enter Try.func28, Try.ntmps28
  go_wp2_with (go_at_call 77; refine (l2Clamp_any _ _ _).mono ?_; rintro e w1 ⟨rfl, hb1⟩; obtain ⟨hc1, hf1⟩ := bcell hb1; have hz1 := hb1.size; (try simp at hz1); have hq1x0a : w.heap.size < w1.heap.size := (by omega); have hq1x1a : w.heap.size + 1 < w1.heap.size := (by omega); have hq1x2a : w.heap.size + 1 + 1 < w1.heap.size := (by omega); have hq1x2b : w.heap.size + 2 < w1.heap.size := (by omega))
  exact bodyPost_ret (v := vv (fc (fc x - fc u)) (fc (fc y - fc v))) (by simp [results, Try.results28, go_sem, *]) rfl ⟨rfl, by repeat (first | exact Below.refl _ _ | refine Below.setCell ?_ (by first | (simp; done) | (simp; omega)) _ | refine Below.alloc ?_ (by first | (simp; done) | (simp; omega)) _ | refine Below.drew ?_ | refine belowDrewN ?_ _ | refine Below.trans ?_ (Below.mono (by assumption) (by first | (simp; done) | (simp; omega) | omega)))⟩

set_option maxHeartbeats 1000000 in
theorem sVecDot_any (x y u v : Int) (w : World) :
    Calls Try.prog 36 #[vv x y, vv u v] w fun e w' => e = .returned (.int .i64 (vdot x y u v)) ∧ Below w.heap.size w w' := by
  have hx := fc_bd x
  have hy := fc_bd y
  have hu := fc_bd u
  have hv := fc_bd v
  have p := mul_bd hx hu
  have q := mul_bd hy hv
  have hset := cset_map
  go_enter Try.func36, Try.ntmps36
  go_wp2_with (first
    | (go_at_call 77; refine (l2Clamp_any _ _ _).mono ?_; rintro e w1 ⟨rfl, hb1⟩; obtain ⟨hc1, hf1⟩ := bcell hb1; have hz1 := hb1.size; (try simp at hz1); have hq1x0a : w.heap.size < w1.heap.size := (by omega); have hq1x1a : w.heap.size + 1 < w1.heap.size := (by omega))
    | (go_at_call 89; refine (sFixClamp_any _ _).mono ?_; rintro e w' ⟨rfl, rfl⟩))
  go_ret
  exact ⟨rfl, by repeat (first | exact Below.refl _ _ | refine Below.setCell ?_ (by first | (simp; done) | (simp; omega)) _ | refine Below.alloc ?_ (by first | (simp; done) | (simp; omega)) _ | refine Below.drew ?_ | refine belowDrewN ?_ _ | refine Below.trans ?_ (Below.mono (by assumption) (by first | (simp; done) | (simp; omega) | omega)))⟩

end Go.Proofs.Ytpfedfoiopcilaa
