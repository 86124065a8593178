/- The walk of an exact law of chapter 2. -/
import Derived.Test.YtbaaidafgdhpeaaExVecW
import Derived.Deep.QuietTactic
import Derived.BigQuiet
import Derived.Deep.RegionWith
import Derived.Deep.DeepCutAuto
namespace Go.Proofs.Ytbaaidafgdhpeaa
open Go.RowKit
set_option linter.unusedVariables false
set_option linter.unusedSimpArgs false

set_option maxHeartbeats 8000000 in
theorem fnExactVecDot_walk (x y u v : Int) (w : World) (hx : (Lit.int .i64 x).wf = true) (hy : (Lit.int .i64 y).wf = true) (hu : (Lit.int .i64 u).wf = true) (hv : (Lit.int .i64 v).wf = true) :
    Calls Try.prog 4 #[vv x y, vv u v] w fun e w' => e = .returned (.bool true) ∧ Below w.heap.size w w' := by
  have hset := cset_map
  go_enter Try.func4, Try.ntmps4
  go_upto_region 1 with fail
  go_cut [5] (fun t wc => t = .int .i64 (vdot x y u v) ∧ L2 w wc x y u v)
  case first =>
    go_region_with (first
    | (go_at_call 18; refine (toVec_any _ _ _).mono ?_; rintro e w1 ⟨rfl, hb1⟩; obtain ⟨hc1, hf1⟩ := bcell hb1; have hl1 := blt hb1; have hz1 := hb1.size; (try simp only [World.size_drew, World.size_alloc, World.size_setCell] at hc1 hf1 hl1 hz1); (try have hq1x0 : w.heap.size < w1.heap.size := (by omega)); (try have hq1x1 : w.heap.size + 1 < w1.heap.size := (by omega)); (try have hq1x2 : w.heap.size + 1 + 1 < w1.heap.size := (by omega)); (try have hq1x3 : w.heap.size + 1 + 1 + 1 < w1.heap.size := (by omega)); (try have hqb1 : B5 < w1.heap.size := (by omega)); (try have hqd1 : ¬ w1.heap.size = B5 := (by omega)); (try have hqe1 : ¬ B5 = w1.heap.size := (by omega)); (try have hqc1 : wc.heap.size < w1.heap.size := (by omega)); (try have hn1 : w3.heap.size < w1.heap.size := (by omega)); (try have hm1 : ¬ w3.heap.size = w1.heap.size := (by omega)); (try have ho1 : ¬ w1.heap.size = w3.heap.size := (by omega)))
    | (go_at_call 14; refine (sVecDot_any _ _ _ _ _).mono ?_; rintro e w3 ⟨rfl, hb3⟩; obtain ⟨hc3, hf3⟩ := bcell hb3; have hl3 := blt hb3; have hz3 := hb3.size; (try simp only [World.size_drew, World.size_alloc, World.size_setCell] at hc3 hf3 hl3 hz3); (try have hq3x0 : w.heap.size < w3.heap.size := (by omega)); (try have hq3x1 : w.heap.size + 1 < w3.heap.size := (by omega)); (try have hq3x2 : w.heap.size + 1 + 1 < w3.heap.size := (by omega)); (try have hq3x3 : w.heap.size + 1 + 1 + 1 < w3.heap.size := (by omega)); (try have hqb3 : B5 < w3.heap.size := (by omega)); (try have hqd3 : ¬ w3.heap.size = B5 := (by omega)); (try have hqe3 : ¬ B5 = w3.heap.size := (by omega)); (try have hqc3 : wc.heap.size < w3.heap.size := (by omega)); (try have hn3 : w3.heap.size < w3.heap.size := (by omega)); (try have hm3 : ¬ w3.heap.size = w3.heap.size := (by omega)); (try have ho3 : ¬ w3.heap.size = w3.heap.size := (by omega))))
    all_goals
      go_wp2_with fail
      go_meet
      exact ⟨rfl, ⟨(by first | (go_simp; done) | (simp; omega) | omega), (by first | (go_simp; done) | (simp; omega) | omega), (by first | (go_simp; done) | (simp; omega) | omega), (by first | (go_simp; done) | (simp; omega) | omega), (by first | (go_simp; done) | (simp; omega) | omega), by repeat (first | with_reducible apply Below.refl | (with_reducible apply Below.setCell; rotate_left; focus (first | omega | (simp; done) | (simp; omega))) | (with_reducible apply Below.alloc; rotate_left; focus (first | omega | (simp; done) | (simp; omega))) | with_reducible apply Below.drew | with_reducible apply belowDrewN | (with_reducible apply Below.trans; rotate_left; with_reducible apply Below.mono; with_reducible assumption; focus (first | omega | (simp; done) | (simp; omega))))⟩⟩
  case rest =>
  obtain ⟨rfl, ⟨k0, k1, k2, k3, kz, kb⟩⟩ := hcut
  have kz3 := kb.size
  go_upto_region 2 with fail
  go_cut [6] (fun t wd => t = .int .i64 (vdot x y u v) ∧ Below w.heap.size w wd)
  case first =>
    go_region_with (first
    | (go_at_call 18; refine (toVec_any _ _ _).mono ?_; rintro e w1 ⟨rfl, hb1⟩; obtain ⟨hc1, hf1⟩ := bcell hb1; have hl1 := blt hb1; have hz1 := hb1.size; (try simp only [World.size_drew, World.size_alloc, World.size_setCell] at hc1 hf1 hl1 hz1); (try have hq1x0 : w.heap.size < w1.heap.size := (by omega)); (try have hq1x1 : w.heap.size + 1 < w1.heap.size := (by omega)); (try have hq1x2 : w.heap.size + 1 + 1 < w1.heap.size := (by omega)); (try have hq1x3 : w.heap.size + 1 + 1 + 1 < w1.heap.size := (by omega)); (try have hqb1 : B5 < w1.heap.size := (by omega)); (try have hqd1 : ¬ w1.heap.size = B5 := (by omega)); (try have hqe1 : ¬ B5 = w1.heap.size := (by omega)); (try have hqc1 : wc.heap.size < w1.heap.size := (by omega)); (try have hn1 : w3.heap.size < w1.heap.size := (by omega)); (try have hm1 : ¬ w3.heap.size = w1.heap.size := (by omega)); (try have ho1 : ¬ w1.heap.size = w3.heap.size := (by omega)))
    | (go_at_call 13; refine (vecDot_any _ _ _ _ _).mono ?_; rintro e w2 ⟨rfl, hb2⟩; obtain ⟨hc2, hf2⟩ := bcell hb2; have hl2 := blt hb2; have hz2 := hb2.size; (try simp only [World.size_drew, World.size_alloc, World.size_setCell] at hc2 hf2 hl2 hz2); (try have hq2x0 : w.heap.size < w2.heap.size := (by omega)); (try have hq2x1 : w.heap.size + 1 < w2.heap.size := (by omega)); (try have hq2x2 : w.heap.size + 1 + 1 < w2.heap.size := (by omega)); (try have hq2x3 : w.heap.size + 1 + 1 + 1 < w2.heap.size := (by omega)); (try have hqb2 : B5 < w2.heap.size := (by omega)); (try have hqd2 : ¬ w2.heap.size = B5 := (by omega)); (try have hqe2 : ¬ B5 = w2.heap.size := (by omega)); (try have hqc2 : wc.heap.size < w2.heap.size := (by omega)); (try have hn2 : w3.heap.size < w2.heap.size := (by omega)); (try have hm2 : ¬ w3.heap.size = w2.heap.size := (by omega)); (try have ho2 : ¬ w2.heap.size = w3.heap.size := (by omega))))
    all_goals
      go_wp2_with fail
      go_meet
      exact ⟨rfl, by repeat (first | with_reducible apply Below.refl | (with_reducible apply Below.setCell; rotate_left; focus (first | omega | (simp; done) | (simp; omega))) | (with_reducible apply Below.alloc; rotate_left; focus (first | omega | (simp; done) | (simp; omega))) | with_reducible apply Below.drew | with_reducible apply belowDrewN | (with_reducible apply Below.trans; rotate_left; with_reducible apply Below.mono; with_reducible assumption; focus (first | omega | (simp; done) | (simp; omega))))⟩
  case rest =>
  obtain ⟨rfl, kb2⟩ := hcut
  go_wp2
  go_ret
  exact ⟨rfl, kb2⟩

end Go.Proofs.Ytbaaidafgdhpeaa
