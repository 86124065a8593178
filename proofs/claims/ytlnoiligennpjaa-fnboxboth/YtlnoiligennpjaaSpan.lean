/- The contracts of spans. -/
import Derived.Test.YtlnoiligennpjaaBox
import Derived.Deep.QuietTactic
import Derived.BigQuiet
import Derived.Deep.RegionWith
import Derived.Deep.RegionHeld3
namespace Go.Proofs.Ytlnoiligennpjaa
open Go.RowKit
set_option linter.unusedVariables false
set_option linter.unusedSimpArgs false

/-- the lesser, the greater -/
def mn (x y : Int) : Int := if y < x then y else x
def mx (x y : Int) : Int := if x < y then y else x
theorem mn_bd {B x y : Int} (hx : -B ≤ x ∧ x ≤ B) (hy : -B ≤ y ∧ y ≤ B) : -B ≤ mn x y ∧ mn x y ≤ B := by unfold mn; split <;> omega
theorem mx_bd {B x y : Int} (hx : -B ≤ x ∧ x ≤ B) (hy : -B ≤ y ∧ y ≤ B) : -B ≤ mx x y ∧ mx x y ≤ B := by unfold mx; split <;> omega

set_option maxHeartbeats 1000000 in
theorem spanOf_any (a b c d : Int) (w : World) :
    Calls Try.prog 11 #[b4 a b c d] w fun e w' => e = .returned (b4 a b c d) ∧ Below w.heap.size w w' := by
  have hset := cset_map
  go_enter Try.func11, Try.ntmps11
  go_wp2
  go_region_held3 (fun w' => w'.cell? ⟨w.heap.size, 0, none⟩ = some (.int .i64 a) ∧ w'.cell? ⟨w.heap.size, 1, none⟩ = some (.int .i64 b) ∧ w'.cell? ⟨w.heap.size, 2, none⟩ = some (.int .i64 c) ∧ w'.cell? ⟨w.heap.size, 3, none⟩ = some (.int .i64 d)) (first | (go_simp; done) | (go_keep; done)) ((go_at_call 18; refine (wayOf_any _ _ _).mono ?_; rintro e w1 ⟨rfl, hb1⟩; obtain ⟨hc1, hf1⟩ := bcell hb1; have hl1 := blt hb1; have hz1 := hb1.size; (try simp only [World.size_drew, World.size_alloc, World.size_setCell] at hc1 hf1 hl1 hz1); (try have hq1x0 : w.heap.size < w1.heap.size := (by omega)); (try have hq1x1 : w.heap.size + 1 < w1.heap.size := (by omega))))
  all_goals
    go_wp2
    exact bodyPost_ret (v := b4 a b c d) (by simp [results, Try.results11, go_sem, *]) rfl ⟨rfl, by repeat (first | with_reducible apply Below.refl | (with_reducible apply Below.setCell; rotate_left; focus (first | omega | (simp; done) | (simp; omega))) | (with_reducible apply Below.alloc; rotate_left; focus (first | omega | (simp; done) | (simp; omega))) | with_reducible apply Below.drew | with_reducible apply belowDrewN | (with_reducible apply Below.trans; rotate_left; with_reducible apply Below.mono; with_reducible assumption; focus (first | omega | (simp; done) | (simp; omega))))⟩

set_option maxHeartbeats 1000000 in
theorem spanBox_any (a b c d : Int) (w : World) :
    Calls Try.prog 13 #[b4 a b c d] w fun e w' => e = .returned (b4 a b c d) ∧ Below w.heap.size w w' := by
  have hset := cset_map
  go_enter Try.func13, Try.ntmps13
  go_wp2
  go_region_held3 (fun w' => w'.cell? ⟨w.heap.size, 0, none⟩ = some (.int .i64 a) ∧ w'.cell? ⟨w.heap.size, 1, none⟩ = some (.int .i64 b) ∧ w'.cell? ⟨w.heap.size, 2, none⟩ = some (.int .i64 c) ∧ w'.cell? ⟨w.heap.size, 3, none⟩ = some (.int .i64 d)) (first | (go_simp; done) | (go_keep; done)) ((go_at_call 27; refine (vec_any _ _ _).mono ?_; rintro e w1 ⟨rfl, hb1⟩; obtain ⟨hc1, hf1⟩ := bcell hb1; have hl1 := blt hb1; have hz1 := hb1.size; (try simp only [World.size_drew, World.size_alloc, World.size_setCell] at hc1 hf1 hl1 hz1); (try have hq1x0 : w.heap.size < w1.heap.size := (by omega)); (try have hq1x1 : w.heap.size + 1 < w1.heap.size := (by omega))))
  all_goals
    go_wp2
    exact bodyPost_ret (v := b4 a b c d) (by simp [results, Try.results13, go_sem, *]) rfl ⟨rfl, by repeat (first | with_reducible apply Below.refl | (with_reducible apply Below.setCell; rotate_left; focus (first | omega | (simp; done) | (simp; omega))) | (with_reducible apply Below.alloc; rotate_left; focus (first | omega | (simp; done) | (simp; omega))) | with_reducible apply Below.drew | with_reducible apply belowDrewN | (with_reducible apply Below.trans; rotate_left; with_reducible apply Below.mono; with_reducible assumption; focus (first | omega | (simp; done) | (simp; omega))))⟩

set_option maxHeartbeats 1000000 in
theorem spanHas_any (a b c d r s t u : Int) (w : World) :
    Calls Try.prog 20 #[b4 a b c d, b4 r s t u] w fun e w' => e = .returned (.bool (leB a b r s && leB t u c d)) ∧ Below w.heap.size w w' := by
  have hset := cset_map
  go_enter Try.func20, Try.ntmps20
  go_wp2_with (go_at_call 19; refine (noneGreater_any _ _ _ _ _).mono ?_; rintro e w1 ⟨rfl, hb1⟩; obtain ⟨hc1, hf1⟩ := bcell hb1; have hl1 := blt hb1; have hz1 := hb1.size; (try simp only [World.size_drew, World.size_alloc, World.size_setCell] at hc1 hf1 hl1 hz1); (try have hq1x0 : w.heap.size < w1.heap.size := (by omega)); (try have hq1x1 : w.heap.size + 1 < w1.heap.size := (by omega)))
  all_goals
    go_ret
    refine ⟨ret_bool ?_, by repeat (first | with_reducible apply Below.refl | (with_reducible apply Below.setCell; rotate_left; focus (first | omega | (simp; done) | (simp; omega))) | (with_reducible apply Below.alloc; rotate_left; focus (first | omega | (simp; done) | (simp; omega))) | with_reducible apply Below.drew | with_reducible apply belowDrewN | (with_reducible apply Below.trans; rotate_left; with_reducible apply Below.mono; with_reducible assumption; focus (first | omega | (simp; done) | (simp; omega))))⟩
    first | (simp [*]; done) | (simp at *; simp [*]; done) | (simp at *; omega)

set_option maxHeartbeats 1000000 in
theorem least_any (x y u v : Int) (w : World) :
    Calls Try.prog 25 #[vv x y, vv u v] w fun e w' => e = .returned (vv (mn x u) (mn y v)) ∧ Below w.heap.size w w' := by
  have hset := cset_map
  go_enter Try.func25, Try.ntmps25
  go_wp2
  all_goals
    refine bodyPost_ret (v := vv (mn x u) (mn y v)) ?_ rfl ⟨rfl, by repeat (first | with_reducible apply Below.refl | (with_reducible apply Below.setCell; rotate_left; focus (first | omega | (simp; done) | (simp; omega))) | (with_reducible apply Below.alloc; rotate_left; focus (first | omega | (simp; done) | (simp; omega))) | with_reducible apply Below.drew | with_reducible apply belowDrewN | (with_reducible apply Below.trans; rotate_left; with_reducible apply Below.mono; with_reducible assumption; focus (first | omega | (simp; done) | (simp; omega))))⟩
    simp [results, Try.results25, go_sem, *]
    try (constructor <;> (unfold mn; split <;> omega))

set_option maxHeartbeats 1000000 in
theorem greatest_any (x y u v : Int) (w : World) :
    Calls Try.prog 26 #[vv x y, vv u v] w fun e w' => e = .returned (vv (mx x u) (mx y v)) ∧ Below w.heap.size w w' := by
  have hset := cset_map
  go_enter Try.func26, Try.ntmps26
  go_wp2
  all_goals
    refine bodyPost_ret (v := vv (mx x u) (mx y v)) ?_ rfl ⟨rfl, by repeat (first | with_reducible apply Below.refl | (with_reducible apply Below.setCell; rotate_left; focus (first | omega | (simp; done) | (simp; omega))) | (with_reducible apply Below.alloc; rotate_left; focus (first | omega | (simp; done) | (simp; omega))) | with_reducible apply Below.drew | with_reducible apply belowDrewN | (with_reducible apply Below.trans; rotate_left; with_reducible apply Below.mono; with_reducible assumption; focus (first | omega | (simp; done) | (simp; omega))))⟩
    simp [results, Try.results26, go_sem, *]
    try (constructor <;> (unfold mx; split <;> omega))

end Go.Proofs.Ytlnoiligennpjaa
