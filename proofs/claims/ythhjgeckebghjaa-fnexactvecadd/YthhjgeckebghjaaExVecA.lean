/- The walk of an exact law of chapter 2. -/
import Derived.Test.YthhjgeckebghjaaExVecW
import Derived.Deep.QuietTactic
import Derived.BigQuiet
import Derived.Deep.RegionWith
import Derived.Deep.DeepCutAuto
namespace Go.Proofs.Ythhjgeckebghjaa
open Go.RowKit
set_option linter.unusedVariables false
set_option linter.unusedSimpArgs false

set_option maxHeartbeats 8000000 in
theorem fnExactVecAdd_walk (x y u v : Int) (w : World) (hx : (Lit.int .i64 x).wf = true) (hy : (Lit.int .i64 y).wf = true) (hu : (Lit.int .i64 u).wf = true) (hv : (Lit.int .i64 v).wf = true) :
    Calls Try.prog 24 #[vv x y, vv u v] w fun e w' => e = .returned (.bool true) ∧ Below w.heap.size w w' := by
  have hset := cset_map
  go_enter Try.func24, Try.ntmps24
  go_upto_region 1 with fail
  go_cut [5] (fun t wc => ∃ B, t = .pointer (some ⟨B, 0, none⟩) ∧ L2 w wc x y u v ∧ At2 wc B (fc (fc x + fc u)) (fc (fc y + fc v)))
  case first =>
    go_region_with (first
    | (go_at_call 93; refine (toVec_any _ _ _).mono ?_; rintro e w1 ⟨rfl, hb1⟩; obtain ⟨hc1, hf1⟩ := bcell hb1; have hl1 := blt hb1; have hz1 := hb1.size; (try simp only [World.size_drew, World.size_alloc, World.size_setCell] at hc1 hf1 hl1 hz1); (try have hq1x0 : w.heap.size < w1.heap.size := (by omega)); (try have hq1x1 : w.heap.size + 1 < w1.heap.size := (by omega)); (try have hq1x2 : w.heap.size + 1 + 1 < w1.heap.size := (by omega)); (try have hq1x3 : w.heap.size + 1 + 1 + 1 < w1.heap.size := (by omega)); (try have hqb1 : B5 < w1.heap.size := (by omega)); (try have hqd1 : ¬ w1.heap.size = B5 := (by omega)); (try have hqe1 : ¬ B5 = w1.heap.size := (by omega)); (try have hqc1 : wc.heap.size < w1.heap.size := (by omega)); (try have hn1 : w3.heap.size < w1.heap.size := (by omega)); (try have hm1 : ¬ w3.heap.size = w1.heap.size := (by omega)); (try have ho1 : ¬ w1.heap.size = w3.heap.size := (by omega)))
    | (go_at_call 53; refine (sVecAdd_any _ _ _ _ _).mono ?_; rintro e w3 ⟨rfl, hb3⟩; obtain ⟨hc3, hf3⟩ := bcell hb3; have hl3 := blt hb3; have hz3 := hb3.size; (try simp only [World.size_drew, World.size_alloc, World.size_setCell] at hc3 hf3 hl3 hz3); (try have hq3x0 : w.heap.size < w3.heap.size := (by omega)); (try have hq3x1 : w.heap.size + 1 < w3.heap.size := (by omega)); (try have hq3x2 : w.heap.size + 1 + 1 < w3.heap.size := (by omega)); (try have hq3x3 : w.heap.size + 1 + 1 + 1 < w3.heap.size := (by omega)); (try have hqb3 : B5 < w3.heap.size := (by omega)); (try have hqd3 : ¬ w3.heap.size = B5 := (by omega)); (try have hqe3 : ¬ B5 = w3.heap.size := (by omega)); (try have hqc3 : wc.heap.size < w3.heap.size := (by omega)); (try have hn3 : w3.heap.size < w3.heap.size := (by omega)); (try have hm3 : ¬ w3.heap.size = w3.heap.size := (by omega)); (try have ho3 : ¬ w3.heap.size = w3.heap.size := (by omega))))
    all_goals
      go_wp2_with fail
      go_meet
      exact ⟨_, rfl, ⟨(by first | (go_simp; done) | (simp; omega) | omega), (by first | (go_simp; done) | (simp; omega) | omega), (by first | (go_simp; done) | (simp; omega) | omega), (by first | (go_simp; done) | (simp; omega) | omega), (by first | (go_simp; done) | (simp; omega) | omega), by repeat (first | exact Below.refl _ _ | refine Below.setCell ?_ (by first | omega | (simp; done) | (simp; omega)) _ | refine Below.alloc ?_ (by first | omega | (simp; done) | (simp; omega)) _ | refine Below.drew ?_ | refine belowDrewN ?_ _ | refine Below.trans ?_ (Below.mono (by assumption) (by first | (simp; done) | (simp; omega) | omega)))⟩, ⟨(by first | (go_simp; done) | (simp; omega) | omega), (by first | (go_simp; done) | (simp; omega) | omega), (by first | (go_simp; done) | (simp; omega) | omega)⟩⟩
  case rest =>
  obtain ⟨B5, rfl, ⟨k0, k1, k2, k3, kz, kb⟩, ⟨m0, m1, mz⟩⟩ := hcut
  have kz3 := kb.size
  have kz4 : w.heap.size < wc.heap.size := (by omega)
  have kz5 : ¬ wc.heap.size = B5 := (by omega)
  have kz6 : ¬ B5 = wc.heap.size := (by omega)
  go_upto_region 2 with fail
  go_cut [6] (fun t wd => ∃ B, t = .pointer (some ⟨B, 0, none⟩) ∧ Below w.heap.size w wd ∧ At2 wd B5 (fc (fc x + fc u)) (fc (fc y + fc v)) ∧ At2 wd B (fc (fc x + fc u)) (fc (fc y + fc v)))
  case first =>
    go_region_with (first
    | (go_at_call 93; refine (toVec_any _ _ _).mono ?_; rintro e w1 ⟨rfl, hb1⟩; obtain ⟨hc1, hf1⟩ := bcell hb1; have hl1 := blt hb1; have hz1 := hb1.size; (try simp only [World.size_drew, World.size_alloc, World.size_setCell] at hc1 hf1 hl1 hz1); (try have hq1x0 : w.heap.size < w1.heap.size := (by omega)); (try have hq1x1 : w.heap.size + 1 < w1.heap.size := (by omega)); (try have hq1x2 : w.heap.size + 1 + 1 < w1.heap.size := (by omega)); (try have hq1x3 : w.heap.size + 1 + 1 + 1 < w1.heap.size := (by omega)); (try have hqb1 : B5 < w1.heap.size := (by omega)); (try have hqd1 : ¬ w1.heap.size = B5 := (by omega)); (try have hqe1 : ¬ B5 = w1.heap.size := (by omega)); (try have hqc1 : wc.heap.size < w1.heap.size := (by omega)); (try have hn1 : w3.heap.size < w1.heap.size := (by omega)); (try have hm1 : ¬ w3.heap.size = w1.heap.size := (by omega)); (try have ho1 : ¬ w1.heap.size = w3.heap.size := (by omega)))
    | (go_at_call 52; refine (vecAdd_any _ _ _ _ _).mono ?_; rintro e w2 ⟨rfl, hb2⟩; obtain ⟨hc2, hf2⟩ := bcell hb2; have hl2 := blt hb2; have hz2 := hb2.size; (try simp only [World.size_drew, World.size_alloc, World.size_setCell] at hc2 hf2 hl2 hz2); (try have hq2x0 : w.heap.size < w2.heap.size := (by omega)); (try have hq2x1 : w.heap.size + 1 < w2.heap.size := (by omega)); (try have hq2x2 : w.heap.size + 1 + 1 < w2.heap.size := (by omega)); (try have hq2x3 : w.heap.size + 1 + 1 + 1 < w2.heap.size := (by omega)); (try have hqb2 : B5 < w2.heap.size := (by omega)); (try have hqd2 : ¬ w2.heap.size = B5 := (by omega)); (try have hqe2 : ¬ B5 = w2.heap.size := (by omega)); (try have hqc2 : wc.heap.size < w2.heap.size := (by omega)); (try have hn2 : w3.heap.size < w2.heap.size := (by omega)); (try have hm2 : ¬ w3.heap.size = w2.heap.size := (by omega)); (try have ho2 : ¬ w2.heap.size = w3.heap.size := (by omega))))
    all_goals
      go_wp2_with fail
      go_meet
      exact ⟨_, rfl, by repeat (first | exact Below.refl _ _ | refine Below.setCell ?_ (by first | omega | (simp; done) | (simp; omega)) _ | refine Below.alloc ?_ (by first | omega | (simp; done) | (simp; omega)) _ | refine Below.drew ?_ | refine belowDrewN ?_ _ | refine Below.trans ?_ (Below.mono (by assumption) (by first | (simp; done) | (simp; omega) | omega))), ⟨(by first | (go_simp; done) | (simp; omega) | omega), (by first | (go_simp; done) | (simp; omega) | omega), (by first | (go_simp; done) | (simp; omega) | omega)⟩, ⟨(by first | (go_simp; done) | (simp; omega) | omega), (by first | (go_simp; done) | (simp; omega) | omega), (by first | (go_simp; done) | (simp; omega) | omega)⟩⟩
  case rest =>
  obtain ⟨B6, rfl, kb2, ⟨m0, m1, mz⟩, ⟨n0, n1, nz⟩⟩ := hcut
  have kz2 := kb2.size
  go_wp2_with (go_at_call 94; refine (eqVec_same _ _ _).mono ?_; rintro e w4 ⟨rfl, hb4⟩; obtain ⟨hc4, hf4⟩ := bcell hb4; have hl4 := blt hb4; have hz4 := hb4.size; (try simp only [World.size_drew, World.size_alloc, World.size_setCell] at hc4 hf4 hl4 hz4); (try have hq4x0 : w.heap.size < w4.heap.size := (by omega)); (try have hq4x1 : w.heap.size + 1 < w4.heap.size := (by omega)); (try have hq4x2 : w.heap.size + 1 + 1 < w4.heap.size := (by omega)); (try have hq4x3 : w.heap.size + 1 + 1 + 1 < w4.heap.size := (by omega)); (try have hqb4 : B5 < w4.heap.size := (by omega)); (try have hqd4 : ¬ w4.heap.size = B5 := (by omega)); (try have hqe4 : ¬ B5 = w4.heap.size := (by omega)); (try have hqc4 : wc.heap.size < w4.heap.size := (by omega)); (try have hn4 : w3.heap.size < w4.heap.size := (by omega)); (try have hm4 : ¬ w3.heap.size = w4.heap.size := (by omega)); (try have ho4 : ¬ w4.heap.size = w3.heap.size := (by omega)))
  go_ret
  exact ⟨rfl, by repeat (first | exact Below.refl _ _ | refine Below.setCell ?_ (by first | omega | (simp; done) | (simp; omega)) _ | refine Below.alloc ?_ (by first | omega | (simp; done) | (simp; omega)) _ | refine Below.drew ?_ | refine belowDrewN ?_ _ | refine Below.trans ?_ (Below.mono (by assumption) (by first | (simp; done) | (simp; omega) | omega)))⟩

end Go.Proofs.Ythhjgeckebghjaa
