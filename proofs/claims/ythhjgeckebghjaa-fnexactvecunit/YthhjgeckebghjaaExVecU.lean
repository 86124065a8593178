/- The walk of an exact law of chapter 2. -/
import Derived.Test.YthhjgeckebghjaaExVecW
import Derived.Deep.QuietTactic
import Derived.BigQuiet
import Derived.Deep.RegionWith
import Derived.Deep.DeepCutAuto
namespace Go.Proofs.Ythhjgeckebghjaa
open Go.RowKit
set_option linter.unusedVariables false
set_option linter.unusedSimpArgs false

set_option maxHeartbeats 4000000 in
theorem fnExactVecUnit_walk (x y : Int) (w : World) (hx : (Lit.int .i64 x).wf = true) (hy : (Lit.int .i64 y).wf = true) :
    Calls Try.prog 29 #[vv x y] w fun e w' => e = .returned (.bool true) ∧ Below w.heap.size w w' := by
  have hset := cset_map
  go_enter Try.func29, Try.ntmps29
  go_wp2_with (first
    | (go_at_call 93; refine (toVec_any _ _ _).mono ?_; rintro e w1 ⟨rfl, hb1⟩; obtain ⟨hc1, hf1⟩ := bcell hb1; have hl1 := blt hb1; have hz1 := hb1.size; (try simp only [World.size_drew, World.size_alloc, World.size_setCell] at hc1 hf1 hl1 hz1); (try have hq1x0 : w.heap.size < w1.heap.size := (by omega)); (try have hq1x1 : w.heap.size + 1 < w1.heap.size := (by omega)); (try have hq1x2 : w.heap.size + 1 + 1 < w1.heap.size := (by omega)); (try have hq1x3 : w.heap.size + 1 + 1 + 1 < w1.heap.size := (by omega)); (try have hn1 : w3.heap.size < w1.heap.size := (by omega)); (try have hm1 : ¬ w3.heap.size = w1.heap.size := (by omega)); (try have ho1 : ¬ w1.heap.size = w3.heap.size := (by omega)))
    | (go_at_call 70; refine (sVecUnit_any _ _ _).mono ?_; rintro e w3 ⟨rfl, hb3⟩; obtain ⟨hc3, hf3⟩ := bcell hb3; have hl3 := blt hb3; have hz3 := hb3.size; (try simp only [World.size_drew, World.size_alloc, World.size_setCell] at hc3 hf3 hl3 hz3); (try have hq3x0 : w.heap.size < w3.heap.size := (by omega)); (try have hq3x1 : w.heap.size + 1 < w3.heap.size := (by omega)); (try have hq3x2 : w.heap.size + 1 + 1 < w3.heap.size := (by omega)); (try have hq3x3 : w.heap.size + 1 + 1 + 1 < w3.heap.size := (by omega)); (try have hn3 : w3.heap.size < w3.heap.size := (by omega)); (try have hm3 : ¬ w3.heap.size = w3.heap.size := (by omega)); (try have ho3 : ¬ w3.heap.size = w3.heap.size := (by omega)))
    | (go_at_call 69; refine (vecUnit_any _ _ _).mono ?_; rintro e w2 ⟨rfl, hb2⟩; obtain ⟨hc2, hf2⟩ := bcell hb2; have hl2 := blt hb2; have hz2 := hb2.size; (try simp only [World.size_drew, World.size_alloc, World.size_setCell] at hc2 hf2 hl2 hz2); (try have hq2x0 : w.heap.size < w2.heap.size := (by omega)); (try have hq2x1 : w.heap.size + 1 < w2.heap.size := (by omega)); (try have hq2x2 : w.heap.size + 1 + 1 < w2.heap.size := (by omega)); (try have hq2x3 : w.heap.size + 1 + 1 + 1 < w2.heap.size := (by omega)); (try have hn2 : w3.heap.size < w2.heap.size := (by omega)); (try have hm2 : ¬ w3.heap.size = w2.heap.size := (by omega)); (try have ho2 : ¬ w2.heap.size = w3.heap.size := (by omega)))
    | (go_at_call 94; refine (eqVec_same _ _ _).mono ?_; rintro e w4 ⟨rfl, hb4⟩; obtain ⟨hc4, hf4⟩ := bcell hb4; have hl4 := blt hb4; have hz4 := hb4.size; (try simp only [World.size_drew, World.size_alloc, World.size_setCell] at hc4 hf4 hl4 hz4); (try have hq4x0 : w.heap.size < w4.heap.size := (by omega)); (try have hq4x1 : w.heap.size + 1 < w4.heap.size := (by omega)); (try have hq4x2 : w.heap.size + 1 + 1 < w4.heap.size := (by omega)); (try have hq4x3 : w.heap.size + 1 + 1 + 1 < w4.heap.size := (by omega)); (try have hn4 : w3.heap.size < w4.heap.size := (by omega)); (try have hm4 : ¬ w3.heap.size = w4.heap.size := (by omega)); (try have ho4 : ¬ w4.heap.size = w3.heap.size := (by omega))))
  all_goals
    go_ret
    exact ⟨rfl, by repeat (first | exact Below.refl _ _ | refine Below.setCell ?_ (by first | omega | (simp; done) | (simp; omega)) _ | refine Below.alloc ?_ (by first | omega | (simp; done) | (simp; omega)) _ | refine Below.drew ?_ | refine belowDrewN ?_ _ | refine Below.trans ?_ (Below.mono (by assumption) (by first | (simp; done) | (simp; omega) | omega)))⟩

end Go.Proofs.Ythhjgeckebghjaa
