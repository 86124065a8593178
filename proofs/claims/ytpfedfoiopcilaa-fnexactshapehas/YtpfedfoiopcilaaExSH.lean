/- The walk of the exact law of ShapeHas. -/
import Derived.Test.YtpfedfoiopcilaaShDS
import Derived.Test.YtpfedfoiopcilaaExVec0
import Derived.Deep.QuietTactic
import Derived.BigQuiet
import Derived.Deep.RegionWith
import Derived.Deep.DeepCutAuto
import Derived.Deep.RegionHeld3
namespace Go.Proofs.Ytpfedfoiopcilaa
open Go.RowKit
set_option linter.unusedVariables false
set_option linter.unusedSimpArgs false

set_option maxHeartbeats 16000000 in
theorem fnExactShapeHas_walk (k g h x y u v : Int) (w : World) (hk : (Lit.int .i64 k).wf = true) (hg : (Lit.int .i64 g).wf = true) (hh : (Lit.int .i64 h).wf = true) (hx : (Lit.int .i64 x).wf = true) (hy : (Lit.int .i64 y).wf = true) (hu : (Lit.int .i64 u).wf = true) (hv : (Lit.int .i64 v).wf = true) :
    Calls Try.prog 16 #[s3 k g h, vv x y, vv u v] w fun e w' => e = .returned (.bool true) ∧ Below w.heap.size w w' := by
  have hset := cset_map
  go_enter Try.func16, Try.ntmps16
  go_upto_region 1 with fail
  go_cut [7] (fun q wc => q = .bool (shV k g h x y u v) ∧ (wc.cell? ⟨w.heap.size, 0, none⟩ = some (.int .i64 k) ∧ wc.cell? ⟨w.heap.size, 1, none⟩ = some (.int .i64 g) ∧ wc.cell? ⟨w.heap.size, 2, none⟩ = some (.int .i64 h) ∧ wc.cell? ⟨w.heap.size + 1, 0, none⟩ = some (.int .i64 x) ∧ wc.cell? ⟨w.heap.size + 1, 1, none⟩ = some (.int .i64 y) ∧ wc.cell? ⟨w.heap.size + 1 + 1, 0, none⟩ = some (.int .i64 u) ∧ wc.cell? ⟨w.heap.size + 1 + 1, 1, none⟩ = some (.int .i64 v)) ∧ w.heap.size + 1 + 1 < wc.heap.size ∧ Below w.heap.size w wc)
  case first =>
    go_region_held3 (fun w' => w'.cell? ⟨w.heap.size, 0, none⟩ = some (.int .i64 k) ∧ w'.cell? ⟨w.heap.size, 1, none⟩ = some (.int .i64 g) ∧ w'.cell? ⟨w.heap.size, 2, none⟩ = some (.int .i64 h) ∧ w'.cell? ⟨w.heap.size + 1, 0, none⟩ = some (.int .i64 x) ∧ w'.cell? ⟨w.heap.size + 1, 1, none⟩ = some (.int .i64 y) ∧ w'.cell? ⟨w.heap.size + 1 + 1, 0, none⟩ = some (.int .i64 u) ∧ w'.cell? ⟨w.heap.size + 1 + 1, 1, none⟩ = some (.int .i64 v)) (first | trivial | (go_simp; done) | (go_keep; done)) (first
    | (go_at_call 66; refine (toShape_any _ _ _ _).mono ?_; rintro e w1 ⟨rfl, hb1⟩; obtain ⟨hc1, hf1⟩ := bcell hb1; have hl1 := blt hb1; have hz1 := hb1.size; (try simp only [World.size_drew, World.size_alloc, World.size_setCell] at hc1 hf1 hl1 hz1); (try have hq1x0 : w.heap.size < w1.heap.size := (by omega)); (try have hq1x1 : w.heap.size + 1 < w1.heap.size := (by omega)); (try have hq1x2 : w.heap.size + 1 + 1 < w1.heap.size := (by omega)); (try have hq1x3 : w.heap.size + 1 + 1 + 1 < w1.heap.size := (by omega)); (try have hqb1 : B5 < w1.heap.size := (by omega)); (try have hqd1 : ¬ w1.heap.size = B5 := (by omega)); (try have hqe1 : ¬ B5 = w1.heap.size := (by omega)); (try have hqc1 : wc.heap.size < w1.heap.size := (by omega)); (try have hn1 : w3.heap.size < w1.heap.size := (by omega)); (try have hm1 : ¬ w3.heap.size = w1.heap.size := (by omega)); (try have ho1 : ¬ w1.heap.size = w3.heap.size := (by omega)))
    | (go_at_call 67; refine (toVec_any _ _ _).mono ?_; rintro e w1 ⟨rfl, hb1⟩; obtain ⟨hc1, hf1⟩ := bcell hb1; have hl1 := blt hb1; have hz1 := hb1.size; (try simp only [World.size_drew, World.size_alloc, World.size_setCell] at hc1 hf1 hl1 hz1); (try have hq1x0 : w.heap.size < w1.heap.size := (by omega)); (try have hq1x1 : w.heap.size + 1 < w1.heap.size := (by omega)); (try have hq1x2 : w.heap.size + 1 + 1 < w1.heap.size := (by omega)); (try have hq1x3 : w.heap.size + 1 + 1 + 1 < w1.heap.size := (by omega)); (try have hqb1 : B5 < w1.heap.size := (by omega)); (try have hqd1 : ¬ w1.heap.size = B5 := (by omega)); (try have hqe1 : ¬ B5 = w1.heap.size := (by omega)); (try have hqc1 : wc.heap.size < w1.heap.size := (by omega)); (try have hn1 : w3.heap.size < w1.heap.size := (by omega)); (try have hm1 : ¬ w3.heap.size = w1.heap.size := (by omega)); (try have ho1 : ¬ w1.heap.size = w3.heap.size := (by omega)))
    | (go_at_call 53; refine (sShapeHas_any _ _ _ _ _ _ _ _).mono ?_; rintro e w3 ⟨rfl, hb3⟩; obtain ⟨hc3, hf3⟩ := bcell hb3; have hl3 := blt hb3; have hz3 := hb3.size; (try simp only [World.size_drew, World.size_alloc, World.size_setCell] at hc3 hf3 hl3 hz3); (try have hq3x0 : w.heap.size < w3.heap.size := (by omega)); (try have hq3x1 : w.heap.size + 1 < w3.heap.size := (by omega)); (try have hq3x2 : w.heap.size + 1 + 1 < w3.heap.size := (by omega)); (try have hq3x3 : w.heap.size + 1 + 1 + 1 < w3.heap.size := (by omega)); (try have hqb3 : B5 < w3.heap.size := (by omega)); (try have hqd3 : ¬ w3.heap.size = B5 := (by omega)); (try have hqe3 : ¬ B5 = w3.heap.size := (by omega)); (try have hqc3 : wc.heap.size < w3.heap.size := (by omega)); (try have hn3 : w3.heap.size < w3.heap.size := (by omega)); (try have hm3 : ¬ w3.heap.size = w3.heap.size := (by omega)); (try have ho3 : ¬ w3.heap.size = w3.heap.size := (by omega))))
    all_goals
      go_wp2_with fail
      go_meet
      exact ⟨rfl, (by first | assumption | (go_simp; done)), (by first | (go_simp; done) | (simp; omega) | omega), (by repeat (first | exact Below.refl _ _ | refine Below.setCell ?_ (by first | omega | (simp; done) | (simp; omega)) _ | refine Below.alloc ?_ (by first | omega | (simp; done) | (simp; omega)) _ | refine Below.drew ?_ | refine belowDrewN ?_ _ | refine Below.trans ?_ (Below.mono (by assumption) (by first | (simp; done) | (simp; omega) | omega))))⟩
  case rest =>
  obtain ⟨rfl, ⟨k0, k1, k2, k3, k4, k5, k6⟩, kz, kb⟩ := hcut
  have kz3 := kb.size
  have kzz0 : w.heap.size < wc.heap.size := (by omega)
  have kzz1 : w.heap.size + 1 < wc.heap.size := (by omega)
  have kzz2 : w.heap.size + 1 + 1 < wc.heap.size := (by omega)
  go_upto_region 2 with fail
  go_cut [8] (fun q wz => q = .bool (shV k g h x y u v) ∧ Below w.heap.size w wz)
  case first =>
    go_region_held3 (fun w' => w'.cell? ⟨w.heap.size, 0, none⟩ = some (.int .i64 k) ∧ w'.cell? ⟨w.heap.size, 1, none⟩ = some (.int .i64 g) ∧ w'.cell? ⟨w.heap.size, 2, none⟩ = some (.int .i64 h) ∧ w'.cell? ⟨w.heap.size + 1, 0, none⟩ = some (.int .i64 x) ∧ w'.cell? ⟨w.heap.size + 1, 1, none⟩ = some (.int .i64 y) ∧ w'.cell? ⟨w.heap.size + 1 + 1, 0, none⟩ = some (.int .i64 u) ∧ w'.cell? ⟨w.heap.size + 1 + 1, 1, none⟩ = some (.int .i64 v)) (first | trivial | (go_simp; done) | (go_keep; done)) (first
    | (go_at_call 66; refine (toShape_any _ _ _ _).mono ?_; rintro e w1 ⟨rfl, hb1⟩; obtain ⟨hc1, hf1⟩ := bcell hb1; have hl1 := blt hb1; have hz1 := hb1.size; (try simp only [World.size_drew, World.size_alloc, World.size_setCell] at hc1 hf1 hl1 hz1); (try have hq1x0 : w.heap.size < w1.heap.size := (by omega)); (try have hq1x1 : w.heap.size + 1 < w1.heap.size := (by omega)); (try have hq1x2 : w.heap.size + 1 + 1 < w1.heap.size := (by omega)); (try have hq1x3 : w.heap.size + 1 + 1 + 1 < w1.heap.size := (by omega)); (try have hqb1 : B5 < w1.heap.size := (by omega)); (try have hqd1 : ¬ w1.heap.size = B5 := (by omega)); (try have hqe1 : ¬ B5 = w1.heap.size := (by omega)); (try have hqc1 : wc.heap.size < w1.heap.size := (by omega)); (try have hn1 : w3.heap.size < w1.heap.size := (by omega)); (try have hm1 : ¬ w3.heap.size = w1.heap.size := (by omega)); (try have ho1 : ¬ w1.heap.size = w3.heap.size := (by omega)))
    | (go_at_call 67; refine (toVec_any _ _ _).mono ?_; rintro e w1 ⟨rfl, hb1⟩; obtain ⟨hc1, hf1⟩ := bcell hb1; have hl1 := blt hb1; have hz1 := hb1.size; (try simp only [World.size_drew, World.size_alloc, World.size_setCell] at hc1 hf1 hl1 hz1); (try have hq1x0 : w.heap.size < w1.heap.size := (by omega)); (try have hq1x1 : w.heap.size + 1 < w1.heap.size := (by omega)); (try have hq1x2 : w.heap.size + 1 + 1 < w1.heap.size := (by omega)); (try have hq1x3 : w.heap.size + 1 + 1 + 1 < w1.heap.size := (by omega)); (try have hqb1 : B5 < w1.heap.size := (by omega)); (try have hqd1 : ¬ w1.heap.size = B5 := (by omega)); (try have hqe1 : ¬ B5 = w1.heap.size := (by omega)); (try have hqc1 : wc.heap.size < w1.heap.size := (by omega)); (try have hn1 : w3.heap.size < w1.heap.size := (by omega)); (try have hm1 : ¬ w3.heap.size = w1.heap.size := (by omega)); (try have ho1 : ¬ w1.heap.size = w3.heap.size := (by omega)))
    | (go_at_call 52; refine (shapeHas_any _ _ _ _ _ _ _ _).mono ?_; rintro e w2 ⟨rfl, hb2⟩; obtain ⟨hc2, hf2⟩ := bcell hb2; have hl2 := blt hb2; have hz2 := hb2.size; (try simp only [World.size_drew, World.size_alloc, World.size_setCell] at hc2 hf2 hl2 hz2); (try have hq2x0 : w.heap.size < w2.heap.size := (by omega)); (try have hq2x1 : w.heap.size + 1 < w2.heap.size := (by omega)); (try have hq2x2 : w.heap.size + 1 + 1 < w2.heap.size := (by omega)); (try have hq2x3 : w.heap.size + 1 + 1 + 1 < w2.heap.size := (by omega)); (try have hqb2 : B5 < w2.heap.size := (by omega)); (try have hqd2 : ¬ w2.heap.size = B5 := (by omega)); (try have hqe2 : ¬ B5 = w2.heap.size := (by omega)); (try have hqc2 : wc.heap.size < w2.heap.size := (by omega)); (try have hn2 : w3.heap.size < w2.heap.size := (by omega)); (try have hm2 : ¬ w3.heap.size = w2.heap.size := (by omega)); (try have ho2 : ¬ w2.heap.size = w3.heap.size := (by omega))))
    all_goals
      go_wp2_with fail
      go_meet
      exact ⟨rfl, (by repeat (first | exact Below.refl _ _ | refine Below.setCell ?_ (by first | omega | (simp; done) | (simp; omega)) _ | refine Below.alloc ?_ (by first | omega | (simp; done) | (simp; omega)) _ | refine Below.drew ?_ | refine belowDrewN ?_ _ | refine Below.trans ?_ (Below.mono (by assumption) (by first | (simp; done) | (simp; omega) | omega))))⟩
  case rest =>
  obtain ⟨rfl, kb2⟩ := hcut
  generalize ((shV k g h x y u v)) = qv
  go_wp2
  all_goals
    go_ret
    exact ⟨rfl, kb2⟩

end Go.Proofs.Ytpfedfoiopcilaa
