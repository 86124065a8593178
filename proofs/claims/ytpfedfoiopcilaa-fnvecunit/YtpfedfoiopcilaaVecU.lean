/- The contract of VecUnit. -/
import Derived.Test.YtpfedfoiopcilaaVecC
import Derived.Deep.QuietTactic
import Derived.BigQuiet
import Derived.Deep.RegionWith
namespace Go.Proofs.Ytpfedfoiopcilaa
open Go.RowKit
set_option linter.unusedVariables false
set_option linter.unusedSimpArgs false

set_option maxHeartbeats 2000000 in
theorem unit_any (x y : Int) (w : World) (hx : -1000000000 ≤ x ∧ x ≤ 1000000000) (hy : -1000000000 ≤ y ∧ y ≤ 1000000000) :
    Calls Try.prog 94 #[vv x y] w fun e w' => e = .returned (vv (ux x y) (uy x y)) ∧ Below w.heap.size w w' := by
  have hl := vl_bd x y
  by_cases h0 : vl x y = 0
  · have e1 : ux x y = 0 := if_pos h0
    have e2 : uy x y = 256 := if_pos h0
    have hset := cset_map
    go_enter Try.func94, Try.ntmps94
    go_wp2_with (go_at_call 90; refine (length_any _ _ _ (by omega) (by omega)).mono ?_; rintro e w6 ⟨rfl, hb6⟩; obtain ⟨hc6, hf6⟩ := bcell hb6; have hz6 := hb6.size; (try simp at hz6); have hq6x0a : w.heap.size < w6.heap.size := (by omega); have hq6x1a : w.heap.size + 1 < w6.heap.size := (by omega))
    exact bodyPost_ret (v := vv 0 256) (by simp [results, Try.results94, go_sem, *]) rfl ⟨by rw [e1, e2], by repeat (first | exact Below.refl _ _ | refine Below.setCell ?_ (by first | (simp; done) | (simp; omega)) _ | refine Below.alloc ?_ (by first | (simp; done) | (simp; omega)) _ | refine Below.drew ?_ | refine belowDrewN ?_ _ | refine Below.trans ?_ (Below.mono (by assumption) (by first | (simp; done) | (simp; omega) | omega)))⟩
  · have e1 : ux x y = (x * 256).tdiv (vl x y) := if_neg h0
    have e2 : uy x y = (y * 256).tdiv (vl x y) := if_neg h0
    have t1 := w64 (n := (x * 256).tdiv (vl x y)) (by have := tdiv_bd (x := x * 256) (B := 256000000000) (vl x y) (by omega); omega)
    have t2 := w64 (n := (y * 256).tdiv (vl x y)) (by have := tdiv_bd (x := y * 256) (B := 256000000000) (vl x y) (by omega); omega)
    have s1 := i64w (n := (x * 256).tdiv (vl x y)) (by have := tdiv_bd (x := x * 256) (B := 256000000000) (vl x y) (by omega); omega)
    have s2 := i64w (n := (y * 256).tdiv (vl x y)) (by have := tdiv_bd (x := y * 256) (B := 256000000000) (vl x y) (by omega); omega)
    have E1 : Hid (ux x y = (x * 256).tdiv (vl x y)) := e1
    have E2 : Hid (uy x y = (y * 256).tdiv (vl x y)) := e2
    clear e1 e2
    have hset := cset_map
    go_enter Try.func94, Try.ntmps94
    go_wp2_with (go_at_call 90; refine (length_any _ _ _ (by omega) (by omega)).mono ?_; rintro e w6 ⟨rfl, hb6⟩; obtain ⟨hc6, hf6⟩ := bcell hb6; have hz6 := hb6.size; (try simp at hz6); have hq6x0a : w.heap.size < w6.heap.size := (by omega); have hq6x1a : w.heap.size + 1 < w6.heap.size := (by omega))
    go_region
    all_goals
      go_wp2
      exact bodyPost_ret (v := vv ((x * 256).tdiv (vl x y)) ((y * 256).tdiv (vl x y))) (by simp [results, Try.results94, go_sem, *]) rfl ⟨by rw [E1.out, E2.out], by repeat (first | exact Below.refl _ _ | refine Below.setCell ?_ (by first | (simp; done) | (simp; omega)) _ | refine Below.alloc ?_ (by first | (simp; done) | (simp; omega)) _ | refine Below.drew ?_ | refine belowDrewN ?_ _ | refine Below.trans ?_ (Below.mono (by assumption) (by first | (simp; done) | (simp; omega) | omega)))⟩

set_option maxHeartbeats 1000000 in
theorem vecUnit_any (x y : Int) (w : World) :
    Calls Try.prog 42 #[vv x y] w fun e w' => e = .returned (vv (ux (fc x) (fc y)) (uy (fc x) (fc y))) ∧ Below w.heap.size w w' := by
  have hx := fc_bd x
  have hy := fc_bd y
  have hset := cset_map
  go_enter Try.func42, Try.ntmps42
  go_wp2_with (first
    | (go_at_call 73; refine (fixWayOf_any _ _ _).mono ?_; rintro e w1 ⟨rfl, hb1⟩; obtain ⟨hc1, hf1⟩ := bcell hb1; have hz1 := hb1.size; (try simp at hz1); have hq1x0a : w.heap.size < w1.heap.size := (by omega); have hq1x1a : w.heap.size + 1 < w1.heap.size := (by omega))
    | (go_at_call 94; refine (unit_any _ _ _ (by omega) (by omega)).mono ?_; rintro e w2 ⟨rfl, hb2⟩; obtain ⟨hc2, hf2⟩ := bcell hb2; have hz2 := hb2.size; (try simp at hz2); have hq2x0a : w.heap.size < w2.heap.size := (by omega); have hq2x1a : w.heap.size + 1 < w2.heap.size := (by omega))
    | (go_at_call 76; refine (vec_any _ _ _).mono ?_; rintro e w3 ⟨rfl, hb3⟩; obtain ⟨hc3, hf3⟩ := bcell hb3; have hz3 := hb3.size; (try simp at hz3); have hq3x0a : w.heap.size < w3.heap.size := (by omega); have hq3x1a : w.heap.size + 1 < w3.heap.size := (by omega)))
  exact bodyPost_ret (v := vv (ux (fc x) (fc y)) (uy (fc x) (fc y))) (by simp [results, Try.results42, go_sem, *]) rfl ⟨rfl, by repeat (first | exact Below.refl _ _ | refine Below.setCell ?_ (by first | (simp; done) | (simp; omega)) _ | refine Below.alloc ?_ (by first | (simp; done) | (simp; omega)) _ | refine Below.drew ?_ | refine belowDrewN ?_ _ | refine Below.trans ?_ (Below.mono (by assumption) (by first | (simp; done) | (simp; omega) | omega)))⟩

end Go.Proofs.Ytpfedfoiopcilaa
