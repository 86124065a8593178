/- The walk of the exact law of BoxBoth. -/
import Derived.Test.YtbaaidafgdhpeaaSpanB
import Derived.Test.YtbaaidafgdhpeaaSBoth
import Derived.Test.YtbaaidafgdhpeaaExL4
import Derived.Deep.QuietTactic
import Derived.BigQuiet
import Derived.Deep.RegionWith
import Derived.Deep.DeepCutAuto
import Derived.Deep.RegionHeld3
namespace Go.Proofs.Ytbaaidafgdhpeaa
open Go.RowKit
set_option linter.unusedVariables false
set_option linter.unusedSimpArgs false

def bothA (a b c d r s t u : Int) : Int := bb (bokB a b c d && bokB r s t u) (mn a r)
def bothB (a b c d r s t u : Int) : Int := bb (bokB a b c d && bokB r s t u) (mn b s)
def bothC (a b c d r s t u : Int) : Int := bb (bokB a b c d && bokB r s t u) (mx c t)
def bothD (a b c d r s t u : Int) : Int := bb (bokB a b c d && bokB r s t u) (mx d u)

theorem boxBoth_at (a b c d r s t u : Int) (w : World) :
    Calls Try.prog 35 #[b4 a b c d, b4 r s t u] w fun e w' => e = .returned (b4 (bothA a b c d r s t u) (bothB a b c d r s t u) (bothC a b c d r s t u) (bothD a b c d r s t u)) ∧ Below w.heap.size w w' := by
  exact boxBoth_any a b c d r s t u w

theorem sBoxBoth_at (a b c d r s t u : Int) (w : World) :
    Calls Try.prog 36 #[b4 a b c d, b4 r s t u] w fun e w' => e = .returned (b4 (bothA a b c d r s t u) (bothB a b c d r s t u) (bothC a b c d r s t u) (bothD a b c d r s t u)) ∧ Below w.heap.size w w' := by
  exact sBoxBoth_any a b c d r s t u w

set_option maxHeartbeats 16000000 in
theorem fnExactBoxBoth_walk (a b c d r s t u : Int) (w : World) (ha : (Lit.int .i64 a).wf = true) (hb : (Lit.int .i64 b).wf = true) (hc : (Lit.int .i64 c).wf = true) (hd : (Lit.int .i64 d).wf = true) (hr : (Lit.int .i64 r).wf = true) (hs : (Lit.int .i64 s).wf = true) (ht : (Lit.int .i64 t).wf = true) (hu : (Lit.int .i64 u).wf = true) :
    Calls Try.prog 11 #[b4 a b c d, b4 r s t u] w fun e w' => e = .returned (.bool true) ∧ Below w.heap.size w w' := by
  have hset := cset_map
  go_enter Try.func11, Try.ntmps11
  go_upto_region 1 with fail
  go_cut [5] (fun q wc => ∃ B, q = .pointer (some ⟨B, 0, none⟩) ∧ (wc.cell? ⟨w.heap.size, 0, none⟩ = some (.int .i64 a) ∧ wc.cell? ⟨w.heap.size, 1, none⟩ = some (.int .i64 b) ∧ wc.cell? ⟨w.heap.size, 2, none⟩ = some (.int .i64 c) ∧ wc.cell? ⟨w.heap.size, 3, none⟩ = some (.int .i64 d) ∧ wc.cell? ⟨w.heap.size + 1, 0, none⟩ = some (.int .i64 r) ∧ wc.cell? ⟨w.heap.size + 1, 1, none⟩ = some (.int .i64 s) ∧ wc.cell? ⟨w.heap.size + 1, 2, none⟩ = some (.int .i64 t) ∧ wc.cell? ⟨w.heap.size + 1, 3, none⟩ = some (.int .i64 u)) ∧ w.heap.size + 1 < wc.heap.size ∧ Below w.heap.size w wc ∧ At4 wc B (bothA a b c d r s t u) (bothB a b c d r s t u) (bothC a b c d r s t u) (bothD a b c d r s t u))
  case first =>
    go_region_held3 (fun w' => w'.cell? ⟨w.heap.size, 0, none⟩ = some (.int .i64 a) ∧ w'.cell? ⟨w.heap.size, 1, none⟩ = some (.int .i64 b) ∧ w'.cell? ⟨w.heap.size, 2, none⟩ = some (.int .i64 c) ∧ w'.cell? ⟨w.heap.size, 3, none⟩ = some (.int .i64 d) ∧ w'.cell? ⟨w.heap.size + 1, 0, none⟩ = some (.int .i64 r) ∧ w'.cell? ⟨w.heap.size + 1, 1, none⟩ = some (.int .i64 s) ∧ w'.cell? ⟨w.heap.size + 1, 2, none⟩ = some (.int .i64 t) ∧ w'.cell? ⟨w.heap.size + 1, 3, none⟩ = some (.int .i64 u)) (first | (go_simp; done) | (go_keep; done)) (first
    | (go_at_call 41; refine (toBox_any _ _ _ _ _).mono ?_; rintro e w1 ⟨rfl, hb1⟩; obtain ⟨hc1, hf1⟩ := bcell hb1; have hl1 := blt hb1; have hz1 := hb1.size; (try simp only [World.size_drew, World.size_alloc, World.size_setCell] at hc1 hf1 hl1 hz1); (try have hq1x0 : w.heap.size < w1.heap.size := (by omega)); (try have hq1x1 : w.heap.size + 1 < w1.heap.size := (by omega)); (try have hq1x2 : w.heap.size + 1 + 1 < w1.heap.size := (by omega)); (try have hq1x3 : w.heap.size + 1 + 1 + 1 < w1.heap.size := (by omega)); (try have hqb1 : B5 < w1.heap.size := (by omega)); (try have hqd1 : ¬ w1.heap.size = B5 := (by omega)); (try have hqe1 : ¬ B5 = w1.heap.size := (by omega)); (try have hqc1 : wc.heap.size < w1.heap.size := (by omega)); (try have hn1 : w3.heap.size < w1.heap.size := (by omega)); (try have hm1 : ¬ w3.heap.size = w1.heap.size := (by omega)); (try have ho1 : ¬ w1.heap.size = w3.heap.size := (by omega)))
    | (go_at_call 36; refine (sBoxBoth_at _ _ _ _ _ _ _ _ _).mono ?_; rintro e w3 ⟨rfl, hb3⟩; obtain ⟨hc3, hf3⟩ := bcell hb3; have hl3 := blt hb3; have hz3 := hb3.size; (try simp only [World.size_drew, World.size_alloc, World.size_setCell] at hc3 hf3 hl3 hz3); (try have hq3x0 : w.heap.size < w3.heap.size := (by omega)); (try have hq3x1 : w.heap.size + 1 < w3.heap.size := (by omega)); (try have hq3x2 : w.heap.size + 1 + 1 < w3.heap.size := (by omega)); (try have hq3x3 : w.heap.size + 1 + 1 + 1 < w3.heap.size := (by omega)); (try have hqb3 : B5 < w3.heap.size := (by omega)); (try have hqd3 : ¬ w3.heap.size = B5 := (by omega)); (try have hqe3 : ¬ B5 = w3.heap.size := (by omega)); (try have hqc3 : wc.heap.size < w3.heap.size := (by omega)); (try have hn3 : w3.heap.size < w3.heap.size := (by omega)); (try have hm3 : ¬ w3.heap.size = w3.heap.size := (by omega)); (try have ho3 : ¬ w3.heap.size = w3.heap.size := (by omega))))
    all_goals
      go_wp2_with fail
      go_meet
      exact ⟨_, rfl, (by first | assumption | (go_simp; done)), (by first | (go_simp; done) | (simp; omega) | omega), (by repeat (first | with_reducible apply Below.refl | (with_reducible apply Below.setCell; rotate_left; focus (first | omega | (simp; done) | (simp; omega))) | (with_reducible apply Below.alloc; rotate_left; focus (first | omega | (simp; done) | (simp; omega))) | with_reducible apply Below.drew | with_reducible apply belowDrewN | (with_reducible apply Below.trans; rotate_left; with_reducible apply Below.mono; with_reducible assumption; focus (first | omega | (simp; done) | (simp; omega))))), (by unfold At4; first | (go_simp; done) | (refine ⟨?_, ?_, ?_, ?_, ?_⟩ <;> first | (go_simp; done) | (simp; omega) | omega))⟩
  case rest =>
  obtain ⟨B5, rfl, ⟨k0, k1, k2, k3, k4, k5, k6, k7⟩, kz, kb, ⟨m0, m1, m2, m3, mz⟩⟩ := hcut
  have kz3 := kb.size
  have kzz0 : w.heap.size < wc.heap.size := (by omega)
  have kzz1 : w.heap.size + 1 < wc.heap.size := (by omega)
  have kz5 : ¬ wc.heap.size = B5 := (by omega)
  have kz6 : ¬ B5 = wc.heap.size := (by omega)
  go_upto_region 2 with fail
  go_cut [6] (fun q wz => ∃ B, q = .pointer (some ⟨B, 0, none⟩) ∧ At4 wz B5 (bothA a b c d r s t u) (bothB a b c d r s t u) (bothC a b c d r s t u) (bothD a b c d r s t u) ∧ Below w.heap.size w wz ∧ At4 wz B (bothA a b c d r s t u) (bothB a b c d r s t u) (bothC a b c d r s t u) (bothD a b c d r s t u))
  case first =>
    go_region_held3 (fun w' => w'.cell? ⟨w.heap.size, 0, none⟩ = some (.int .i64 a) ∧ w'.cell? ⟨w.heap.size, 1, none⟩ = some (.int .i64 b) ∧ w'.cell? ⟨w.heap.size, 2, none⟩ = some (.int .i64 c) ∧ w'.cell? ⟨w.heap.size, 3, none⟩ = some (.int .i64 d) ∧ w'.cell? ⟨w.heap.size + 1, 0, none⟩ = some (.int .i64 r) ∧ w'.cell? ⟨w.heap.size + 1, 1, none⟩ = some (.int .i64 s) ∧ w'.cell? ⟨w.heap.size + 1, 2, none⟩ = some (.int .i64 t) ∧ w'.cell? ⟨w.heap.size + 1, 3, none⟩ = some (.int .i64 u) ∧ w'.cell? ⟨B5, 0, none⟩ = some (.int .i64 (bothA a b c d r s t u)) ∧ w'.cell? ⟨B5, 1, none⟩ = some (.int .i64 (bothB a b c d r s t u)) ∧ w'.cell? ⟨B5, 2, none⟩ = some (.int .i64 (bothC a b c d r s t u)) ∧ w'.cell? ⟨B5, 3, none⟩ = some (.int .i64 (bothD a b c d r s t u)) ∧ B5 < w'.heap.size) (first | (go_simp; done) | (go_keep; done)) (first
    | (go_at_call 41; refine (toBox_any _ _ _ _ _).mono ?_; rintro e w1 ⟨rfl, hb1⟩; obtain ⟨hc1, hf1⟩ := bcell hb1; have hl1 := blt hb1; have hz1 := hb1.size; (try simp only [World.size_drew, World.size_alloc, World.size_setCell] at hc1 hf1 hl1 hz1); (try have hq1x0 : w.heap.size < w1.heap.size := (by omega)); (try have hq1x1 : w.heap.size + 1 < w1.heap.size := (by omega)); (try have hq1x2 : w.heap.size + 1 + 1 < w1.heap.size := (by omega)); (try have hq1x3 : w.heap.size + 1 + 1 + 1 < w1.heap.size := (by omega)); (try have hqb1 : B5 < w1.heap.size := (by omega)); (try have hqd1 : ¬ w1.heap.size = B5 := (by omega)); (try have hqe1 : ¬ B5 = w1.heap.size := (by omega)); (try have hqc1 : wc.heap.size < w1.heap.size := (by omega)); (try have hn1 : w3.heap.size < w1.heap.size := (by omega)); (try have hm1 : ¬ w3.heap.size = w1.heap.size := (by omega)); (try have ho1 : ¬ w1.heap.size = w3.heap.size := (by omega)))
    | (go_at_call 35; refine (boxBoth_at _ _ _ _ _ _ _ _ _).mono ?_; rintro e w2 ⟨rfl, hb2⟩; obtain ⟨hc2, hf2⟩ := bcell hb2; have hl2 := blt hb2; have hz2 := hb2.size; (try simp only [World.size_drew, World.size_alloc, World.size_setCell] at hc2 hf2 hl2 hz2); (try have hq2x0 : w.heap.size < w2.heap.size := (by omega)); (try have hq2x1 : w.heap.size + 1 < w2.heap.size := (by omega)); (try have hq2x2 : w.heap.size + 1 + 1 < w2.heap.size := (by omega)); (try have hq2x3 : w.heap.size + 1 + 1 + 1 < w2.heap.size := (by omega)); (try have hqb2 : B5 < w2.heap.size := (by omega)); (try have hqd2 : ¬ w2.heap.size = B5 := (by omega)); (try have hqe2 : ¬ B5 = w2.heap.size := (by omega)); (try have hqc2 : wc.heap.size < w2.heap.size := (by omega)); (try have hn2 : w3.heap.size < w2.heap.size := (by omega)); (try have hm2 : ¬ w3.heap.size = w2.heap.size := (by omega)); (try have ho2 : ¬ w2.heap.size = w3.heap.size := (by omega))))
    all_goals
      go_wp2_with fail
      go_meet
      exact ⟨_, rfl, (by unfold At4; refine ⟨?_, ?_, ?_, ?_, ?_⟩ <;> first | (go_simp; done) | (simp; omega) | omega), (by repeat (first | with_reducible apply Below.refl | (with_reducible apply Below.setCell; rotate_left; focus (first | omega | (simp; done) | (simp; omega))) | (with_reducible apply Below.alloc; rotate_left; focus (first | omega | (simp; done) | (simp; omega))) | with_reducible apply Below.drew | with_reducible apply belowDrewN | (with_reducible apply Below.trans; rotate_left; with_reducible apply Below.mono; with_reducible assumption; focus (first | omega | (simp; done) | (simp; omega))))), (by unfold At4; first | (go_simp; done) | (refine ⟨?_, ?_, ?_, ?_, ?_⟩ <;> first | (go_simp; done) | (simp; omega) | omega))⟩
  case rest =>
  obtain ⟨B6, rfl, ⟨m0, m1, m2, m3, mz⟩, kb2, ⟨n0, n1, n2, n3, nz⟩⟩ := hcut
  have kz2 := kb2.size
  go_wp2_with (go_at_call 42; refine (eqBox_same _ _ _ _ _).mono ?_; rintro e w4 ⟨rfl, hb4⟩; obtain ⟨hc4, hf4⟩ := bcell hb4; have hl4 := blt hb4; have hz4 := hb4.size; (try simp only [World.size_drew, World.size_alloc, World.size_setCell] at hc4 hf4 hl4 hz4); (try have hq4x0 : w.heap.size < w4.heap.size := (by omega)); (try have hq4x1 : w.heap.size + 1 < w4.heap.size := (by omega)); (try have hq4x2 : w.heap.size + 1 + 1 < w4.heap.size := (by omega)); (try have hq4x3 : w.heap.size + 1 + 1 + 1 < w4.heap.size := (by omega)); (try have hqb4 : B5 < w4.heap.size := (by omega)); (try have hqd4 : ¬ w4.heap.size = B5 := (by omega)); (try have hqe4 : ¬ B5 = w4.heap.size := (by omega)); (try have hqc4 : wc.heap.size < w4.heap.size := (by omega)); (try have hn4 : w3.heap.size < w4.heap.size := (by omega)); (try have hm4 : ¬ w3.heap.size = w4.heap.size := (by omega)); (try have ho4 : ¬ w4.heap.size = w3.heap.size := (by omega)))
  go_ret
  exact ⟨rfl, by repeat (first | with_reducible apply Below.refl | (with_reducible apply Below.setCell; rotate_left; focus (first | omega | (simp; done) | (simp; omega))) | (with_reducible apply Below.alloc; rotate_left; focus (first | omega | (simp; done) | (simp; omega))) | with_reducible apply Below.drew | with_reducible apply belowDrewN | (with_reducible apply Below.trans; rotate_left; with_reducible apply Below.mono; with_reducible assumption; focus (first | omega | (simp; done) | (simp; omega))))⟩

end Go.Proofs.Ytbaaidafgdhpeaa
