/- The walk of the exact law of BoxMeets. -/
import Derived.Test.YtpfedfoiopcilaaSpanM
import Derived.Test.YtpfedfoiopcilaaSMeet
import Derived.Test.YtpfedfoiopcilaaExL4
import Derived.Deep.QuietTactic
import Derived.BigQuiet
import Derived.Deep.RegionWith
import Derived.Deep.DeepCutAuto
namespace Go.Proofs.Ytpfedfoiopcilaa
open Go.RowKit
set_option linter.unusedVariables false
set_option linter.unusedSimpArgs false

set_option maxHeartbeats 8000000 in
theorem fnExactBoxMeets_walk (a b c d r s t u : Int) (w : World) (ha : (Lit.int .i64 a).wf = true) (hb : (Lit.int .i64 b).wf = true) (hc : (Lit.int .i64 c).wf = true) (hd : (Lit.int .i64 d).wf = true) (hr : (Lit.int .i64 r).wf = true) (hs : (Lit.int .i64 s).wf = true) (ht : (Lit.int .i64 t).wf = true) (hu : (Lit.int .i64 u).wf = true) :
    Calls Try.prog 17 #[b4 a b c d, b4 r s t u] w fun e w' => e = .returned (.bool true) ∧ Below w.heap.size w w' := by
  have hset := cset_map
  go_enter Try.func17, Try.ntmps17
  go_upto_region 1 with fail
  go_cut [5] (fun q wc => q = .bool (bokB a b c d && (bokB r s t u && (leB a b t u && leB r s c d))) ∧ L4 w wc a b c d r s t u)
  case first =>
    go_region_with (first
    | (go_at_call 69; refine (toBox_any _ _ _ _ _).mono ?_; rintro e w1 ⟨rfl, hb1⟩; obtain ⟨hc1, hf1⟩ := bcell hb1; have hl1 := blt hb1; have hz1 := hb1.size; (try simp only [World.size_drew, World.size_alloc, World.size_setCell] at hc1 hf1 hl1 hz1); (try have hq1x0 : w.heap.size < w1.heap.size := (by omega)); (try have hq1x1 : w.heap.size + 1 < w1.heap.size := (by omega)); (try have hq1x2 : w.heap.size + 1 + 1 < w1.heap.size := (by omega)))
    | (go_at_call 56; refine (sBoxMeets_any _ _ _ _ _ _ _ _ _).mono ?_; rintro e w3 ⟨rfl, hb3⟩; obtain ⟨hc3, hf3⟩ := bcell hb3; have hl3 := blt hb3; have hz3 := hb3.size; (try simp only [World.size_drew, World.size_alloc, World.size_setCell] at hc3 hf3 hl3 hz3); (try have hq3x0 : w.heap.size < w3.heap.size := (by omega)); (try have hq3x1 : w.heap.size + 1 < w3.heap.size := (by omega)); (try have hq3x2 : w.heap.size + 1 + 1 < w3.heap.size := (by omega))))
    all_goals
      go_wp2_with fail
      go_meet
      exact ⟨rfl, ⟨(by first | (go_simp; done) | (simp; omega) | omega), (by first | (go_simp; done) | (simp; omega) | omega), (by first | (go_simp; done) | (simp; omega) | omega), (by first | (go_simp; done) | (simp; omega) | omega), (by first | (go_simp; done) | (simp; omega) | omega), (by first | (go_simp; done) | (simp; omega) | omega), (by first | (go_simp; done) | (simp; omega) | omega), (by first | (go_simp; done) | (simp; omega) | omega), (by first | (go_simp; done) | (simp; omega) | omega), by repeat (first | exact Below.refl _ _ | refine Below.setCell ?_ (by first | omega | (simp; done) | (simp; omega)) _ | refine Below.alloc ?_ (by first | omega | (simp; done) | (simp; omega)) _ | refine Below.drew ?_ | refine belowDrewN ?_ _ | refine Below.trans ?_ (Below.mono (by assumption) (by first | (simp; done) | (simp; omega) | omega)))⟩⟩
  case rest =>
  obtain ⟨rfl, ⟨k0, k1, k2, k3, k4, k5, k6, k7, kz, kb⟩⟩ := hcut
  have kz3 := kb.size
  have kz4 : w.heap.size < wc.heap.size := (by omega)
  go_upto_region 2 with fail
  go_cut [6] (fun q wd => q = .bool (bokB a b c d && (bokB r s t u && (leB a b t u && leB r s c d))) ∧ Below w.heap.size w wd)
  case first =>
    go_region_with (first
    | (go_at_call 69; refine (toBox_any _ _ _ _ _).mono ?_; rintro e w1 ⟨rfl, hb1⟩; obtain ⟨hc1, hf1⟩ := bcell hb1; have hl1 := blt hb1; have hz1 := hb1.size; (try simp only [World.size_drew, World.size_alloc, World.size_setCell] at hc1 hf1 hl1 hz1); (try have hq1x0 : w.heap.size < w1.heap.size := (by omega)); (try have hq1x1 : w.heap.size + 1 < w1.heap.size := (by omega)); (try have hq1x2 : w.heap.size + 1 + 1 < w1.heap.size := (by omega)))
    | (go_at_call 55; refine (boxMeets_any _ _ _ _ _ _ _ _ _).mono ?_; rintro e w2 ⟨rfl, hb2⟩; obtain ⟨hc2, hf2⟩ := bcell hb2; have hl2 := blt hb2; have hz2 := hb2.size; (try simp only [World.size_drew, World.size_alloc, World.size_setCell] at hc2 hf2 hl2 hz2); (try have hq2x0 : w.heap.size < w2.heap.size := (by omega)); (try have hq2x1 : w.heap.size + 1 < w2.heap.size := (by omega)); (try have hq2x2 : w.heap.size + 1 + 1 < w2.heap.size := (by omega))))
    all_goals
      go_wp2_with fail
      go_meet
      exact ⟨rfl, by repeat (first | exact Below.refl _ _ | refine Below.setCell ?_ (by first | omega | (simp; done) | (simp; omega)) _ | refine Below.alloc ?_ (by first | omega | (simp; done) | (simp; omega)) _ | refine Below.drew ?_ | refine belowDrewN ?_ _ | refine Below.trans ?_ (Below.mono (by assumption) (by first | (simp; done) | (simp; omega) | omega)))⟩
  case rest =>
  obtain ⟨rfl, kb2⟩ := hcut
  generalize (bokB a b c d && (bokB r s t u && (leB a b t u && leB r s c d))) = q
  go_wp2
  all_goals
    go_ret
    exact ⟨rfl, kb2⟩

end Go.Proofs.Ytpfedfoiopcilaa
