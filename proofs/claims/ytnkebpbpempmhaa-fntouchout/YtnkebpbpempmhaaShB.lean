/- The contracts of places and figures. -/
import Derived.Test.YtnkebpbpempmhaaSpan
import Derived.Test.YtnkebpbpempmhaaShape
import Derived.Test.YtnkebpbpempmhaaSMeet
import Derived.Test.YtnkebpbpempmhaaSVecC
import Derived.Deep.QuietTactic
import Derived.BigQuiet
import Derived.Deep.RegionWith
import Derived.Deep.RegionHeld3
namespace Go.Proofs.Ytnkebpbpempmhaa
open Go.RowKit
set_option linter.unusedVariables false
set_option linter.unusedSimpArgs false

/-- how far up a shape goes -/
def hh (k wd h : Int) : Int := if k = 1 then wd else h
theorem inB_of {l x y : Int} (h : inB l x y = true) : (-l ≤ x ∧ x ≤ l) ∧ (-l ≤ y ∧ y ≤ l) := by
  unfold inB at h; simp only [decide_eq_true_eq] at h; omega

theorem isPlace_any (x y : Int) (w : World) :
    Calls Try.prog 63 #[vv x y] w fun e w' => e = .returned (.bool (inB 2560000 x y)) ∧ Below w.heap.size w w' := by
  have hset := cset_map
  go_enter Try.func63, Try.ntmps63
  go_wp2_with (first
    | (go_at_call 48; refine (wayOf_any _ _ _).mono ?_; rintro e w1 ⟨rfl, hb1⟩; obtain ⟨hc1, hf1⟩ := bcell hb1; have hl1 := blt hb1; have hz1 := hb1.size; (try simp only [World.size_drew, World.size_alloc, World.size_setCell] at hc1 hf1 hl1 hz1); (try have hq1x0 : w.heap.size < w1.heap.size := (by omega)))
    | (go_at_call 86; refine (within2_any _ _ _ _ (by omega) (by omega)).mono ?_; rintro e w2 ⟨rfl, hb2⟩; obtain ⟨hc2, hf2⟩ := bcell hb2; have hl2 := blt hb2; have hz2 := hb2.size; (try simp only [World.size_drew, World.size_alloc, World.size_setCell] at hc2 hf2 hl2 hz2); (try have hq2x0 : w.heap.size < w2.heap.size := (by omega))))
  go_ret
  exact ⟨rfl, by repeat (first | with_reducible apply Below.refl | (with_reducible apply Below.setCell; rotate_left; focus (first | omega | (simp; done) | (simp; omega))) | (with_reducible apply Below.alloc; rotate_left; focus (first | omega | (simp; done) | (simp; omega))) | with_reducible apply Below.drew | with_reducible apply belowDrewN | (with_reducible apply Below.trans; rotate_left; with_reducible apply Below.mono; with_reducible assumption; focus (first | omega | (simp; done) | (simp; omega))))⟩

theorem isPlace_t (x y : Int) (w : World) (h : inB 2560000 x y = true) : Calls Try.prog 63 #[vv x y] w fun e w' => e = .returned (.bool true) ∧ Below w.heap.size w w' := by
  have k := isPlace_any x y w
  rw [h] at k
  exact k
theorem isPlace_n (x y : Int) (w : World) (h : inB 2560000 x y = false) : Calls Try.prog 63 #[vv x y] w fun e w' => e = .returned (.bool false) ∧ Below w.heap.size w w' := by
  have k := isPlace_any x y w
  rw [h] at k
  exact k
theorem reach_r (wd : Int) (w : World) :
    Calls Try.prog 150 #[.agg #[.int .i64 wd]] w fun e w' => e = .returned (vv wd wd) ∧ Below w.heap.size w w' := by
  have hset := cset_map
  go_enter Try.func150, Try.ntmps150
  go_wp2
  exact bodyPost_ret (v := vv wd wd) (by simp [results, Try.results150, go_sem, *]) rfl ⟨rfl, by repeat (first | with_reducible apply Below.refl | (with_reducible apply Below.setCell; rotate_left; focus (first | omega | (simp; done) | (simp; omega))) | (with_reducible apply Below.alloc; rotate_left; focus (first | omega | (simp; done) | (simp; omega))) | with_reducible apply Below.drew | with_reducible apply belowDrewN | (with_reducible apply Below.trans; rotate_left; with_reducible apply Below.mono; with_reducible assumption; focus (first | omega | (simp; done) | (simp; omega))))⟩

theorem reach_b (wd h : Int) (w : World) :
    Calls Try.prog 108 #[.agg #[.int .i64 wd, .int .i64 h]] w fun e w' => e = .returned (vv wd h) ∧ Below w.heap.size w w' := by
  have hset := cset_map
  go_enter Try.func108, Try.ntmps108
  go_wp2
  exact bodyPost_ret (v := vv wd h) (by simp [results, Try.results108, go_sem, *]) rfl ⟨rfl, by repeat (first | with_reducible apply Below.refl | (with_reducible apply Below.setCell; rotate_left; focus (first | omega | (simp; done) | (simp; omega))) | (with_reducible apply Below.alloc; rotate_left; focus (first | omega | (simp; done) | (simp; omega))) | with_reducible apply Below.drew | with_reducible apply belowDrewN | (with_reducible apply Below.trans; rotate_left; with_reducible apply Below.mono; with_reducible assumption; focus (first | omega | (simp; done) | (simp; omega))))⟩

theorem as_rr (v : Value) (w : World) : (Instr.typeAssert (.iface 128 v) 97 128 true).run Try.prog w = .ok (.tuple #[v, .bool true]) w := by kernel_rfl
theorem as_br (v : Value) (w : World) : (Instr.typeAssert (.iface 130 v) 97 128 true).run Try.prog w = .ok (.tuple #[.agg #[.int .i64 0], .bool false]) w := by kernel_rfl
theorem as_bb (v : Value) (w : World) : (Instr.typeAssert (.iface 130 v) 97 130 true).run Try.prog w = .ok (.tuple #[v, .bool true]) w := by kernel_rfl
set_option maxRecDepth 20000 in
set_option maxHeartbeats 1000000 in
theorem figureHas_r (wd x y : Int) (w : World) (h1 : 1 ≤ wd) (h2 : wd ≤ 25600) (hx : -7680000 ≤ x ∧ x ≤ 7680000) (hy : -7680000 ≤ y ∧ y ≤ 7680000) :
    Calls Try.prog 68 #[.iface 128 (.agg #[.int .i64 wd]), vv x y] w fun e w' => e = .returned (.bool (decide (x * x + y * y ≤ wd * wd))) ∧ Below w.heap.size w w' := by
  have p := mul_bd (a := wd) (b := wd) (A := 25600) (B := 25600) (by omega) (by omega)
  have e1 : IntKind.i64.wrap (wd * wd) = wd * wd := i64w (by omega)
  have ha1 := as_rr
  have ha2 := as_br
  have ha3 := as_bb
  have hset := cset_map
  go_enter Try.func68, Try.ntmps68
  go_wp2_with fail
  go_region_held3 (fun w' => w'.cell? ⟨w.heap.size, 0, none⟩ = some (.int .i64 x) ∧ w'.cell? ⟨w.heap.size, 1, none⟩ = some (.int .i64 y) ∧ w'.cell? ⟨w.heap.size + 1, 0, none⟩ = some (.int .i64 wd)) (first | (go_simp; done) | (go_keep; done)) (first
    | (go_at_call 98; refine (products_any _ _ _ _ _ (by omega) (by omega) (by omega) (by omega)).mono ?_; rintro e w1 ⟨rfl, hb1⟩; obtain ⟨hc1, hf1⟩ := bcell hb1; have hl1 := blt hb1; have hz1 := hb1.size; (try simp only [World.size_drew, World.size_alloc, World.size_setCell] at hc1 hf1 hl1 hz1); (try have hq1x0 : w.heap.size < w1.heap.size := (by omega)); (try have hq1x1 : w.heap.size + 1 < w1.heap.size := (by omega))))
  all_goals
    go_wp2
  all_goals
    go_ret
    refine ⟨ret_bool ?_, by repeat (first | with_reducible apply Below.refl | (with_reducible apply Below.setCell; rotate_left; focus (first | omega | (simp; done) | (simp; omega))) | (with_reducible apply Below.alloc; rotate_left; focus (first | omega | (simp; done) | (simp; omega))) | with_reducible apply Below.drew | with_reducible apply belowDrewN | (with_reducible apply Below.trans; rotate_left; with_reducible apply Below.mono; with_reducible assumption; focus (first | omega | (simp; done) | (simp; omega))))⟩
    first | (simp [*]; done) | rfl

set_option maxRecDepth 20000 in
set_option maxHeartbeats 1000000 in
theorem figureHas_b (wd h x y : Int) (w : World) (h1 : 1 ≤ wd) (h2 : wd ≤ 25600) (h3 : 1 ≤ h) (h4 : h ≤ 25600) :
    Calls Try.prog 68 #[.iface 130 (.agg #[.int .i64 wd, .int .i64 h]), vv x y] w fun e w' => e = .returned (.bool (decide ((-wd ≤ x ∧ x ≤ wd) ∧ (-h ≤ y ∧ y ≤ h)))) ∧ Below w.heap.size w w' := by
  have ha1 := as_rr
  have ha2 := as_br
  have ha3 := as_bb
  have hset := cset_map
  go_enter Try.func68, Try.ntmps68
  go_wp2_with (go_at_call 99; refine (within_any _ _ _ (by omega) (by omega)).mono ?_; rintro e w' ⟨rfl, rfl⟩)
  all_goals
    go_ret
    refine ⟨ret_bool ?_, by repeat (first | with_reducible apply Below.refl | (with_reducible apply Below.setCell; rotate_left; focus (first | omega | (simp; done) | (simp; omega))) | (with_reducible apply Below.alloc; rotate_left; focus (first | omega | (simp; done) | (simp; omega))) | with_reducible apply Below.drew | with_reducible apply belowDrewN | (with_reducible apply Below.trans; rotate_left; with_reducible apply Below.mono; with_reducible assumption; focus (first | omega | (simp; done) | (simp; omega))))⟩
    first | (simp [*]; done) | (simp at *; omega) | (simp [*]; omega)

set_option maxHeartbeats 1000000 in
theorem l3Place_any (x y : Int) (w : World) :
    Calls Try.prog 59 #[vv x y] w fun e w' => e = .returned (.bool (inB 2560000 x y)) ∧ Below w.heap.size w w' := by
  have hset := cset_map
  go_enter Try.func59, Try.ntmps59
  go_wp2_with (go_at_call 65; refine (l1In_any _ _ _ _).mono ?_; rintro e w' ⟨rfl, rfl⟩)
  all_goals
    go_ret
    refine ⟨ret_bool ?_, by repeat (first | with_reducible apply Below.refl | (with_reducible apply Below.setCell; rotate_left; focus (first | omega | (simp; done) | (simp; omega))) | (with_reducible apply Below.alloc; rotate_left; focus (first | omega | (simp; done) | (simp; omega))) | with_reducible apply Below.drew | with_reducible apply belowDrewN | (with_reducible apply Below.trans; rotate_left; with_reducible apply Below.mono; with_reducible assumption; focus (first | omega | (simp; done) | (simp; omega))))⟩
    unfold inB
    first | (simp [*]; done) | (simp at *; omega) | (simp [*]; omega)

theorem l3Place_t (x y : Int) (w : World) (h : inB 2560000 x y = true) : Calls Try.prog 59 #[vv x y] w fun e w' => e = .returned (.bool true) ∧ Below w.heap.size w w' := by
  have k := l3Place_any x y w
  rw [h] at k
  exact k
theorem sShapeOk_t (k wd h : Int) (w : World) (hs : shB k wd h = true) : Calls Try.prog 22 #[s3 k wd h] w fun e w' => e = .returned (.bool true) ∧ Below w.heap.size w w' := by
  have q := sShapeOk_any k wd h w
  rw [hs] at q
  exact q
theorem l3Place_n (x y : Int) (w : World) (h : inB 2560000 x y = false) : Calls Try.prog 59 #[vv x y] w fun e w' => e = .returned (.bool false) ∧ Below w.heap.size w w' := by
  have k := l3Place_any x y w
  rw [h] at k
  exact k
theorem sShapeOk_n (k wd h : Int) (w : World) (hs : shB k wd h = false) : Calls Try.prog 22 #[s3 k wd h] w fun e w' => e = .returned (.bool false) ∧ Below w.heap.size w w' := by
  have q := sShapeOk_any k wd h w
  rw [hs] at q
  exact q
set_option maxHeartbeats 2000000 in
theorem l3Bounds_r (wd x y : Int) (w : World) (h1 : 1 ≤ wd) (h2 : wd ≤ 25600) (hx : -2560000 ≤ x ∧ x ≤ 2560000) (hy : -2560000 ≤ y ∧ y ≤ 2560000) :
    Calls Try.prog 78 #[s3 1 wd 0, vv x y] w fun e w' => e = .returned (b4 (x - wd) (y - wd) (x + wd) (y + wd)) ∧ Below w.heap.size w w' := by
  have hset := cset_map
  go_enter Try.func78, Try.ntmps78
  go_wp2
  all_goals
    exact bodyPost_ret (v := b4 (x - wd) (y - wd) (x + wd) (y + wd)) (by simp [results, Try.results78, go_sem, *]) rfl ⟨rfl, by repeat (first | with_reducible apply Below.refl | (with_reducible apply Below.setCell; rotate_left; focus (first | omega | (simp; done) | (simp; omega))) | (with_reducible apply Below.alloc; rotate_left; focus (first | omega | (simp; done) | (simp; omega))) | with_reducible apply Below.drew | with_reducible apply belowDrewN | (with_reducible apply Below.trans; rotate_left; with_reducible apply Below.mono; with_reducible assumption; focus (first | omega | (simp; done) | (simp; omega))))⟩

set_option maxHeartbeats 2000000 in
theorem l3Bounds_b (wd h x y : Int) (w : World) (h1 : 1 ≤ wd) (h2 : wd ≤ 25600) (h3 : 1 ≤ h) (h4 : h ≤ 25600) (hx : -2560000 ≤ x ∧ x ≤ 2560000) (hy : -2560000 ≤ y ∧ y ≤ 2560000) :
    Calls Try.prog 78 #[s3 2 wd h, vv x y] w fun e w' => e = .returned (b4 (x - wd) (y - h) (x + wd) (y + h)) ∧ Below w.heap.size w w' := by
  have hset := cset_map
  go_enter Try.func78, Try.ntmps78
  go_wp2
  all_goals
    exact bodyPost_ret (v := b4 (x - wd) (y - h) (x + wd) (y + h)) (by simp [results, Try.results78, go_sem, *]) rfl ⟨rfl, by repeat (first | with_reducible apply Below.refl | (with_reducible apply Below.setCell; rotate_left; focus (first | omega | (simp; done) | (simp; omega))) | (with_reducible apply Below.alloc; rotate_left; focus (first | omega | (simp; done) | (simp; omega))) | with_reducible apply Below.drew | with_reducible apply belowDrewN | (with_reducible apply Below.trans; rotate_left; with_reducible apply Below.mono; with_reducible assumption; focus (first | omega | (simp; done) | (simp; omega))))⟩

set_option maxHeartbeats 2000000 in
theorem l3Has_r (wd x y u v : Int) (w : World) (h1 : 1 ≤ wd) (h2 : wd ≤ 25600) (hx : -2560000 ≤ x ∧ x ≤ 2560000) (hy : -2560000 ≤ y ∧ y ≤ 2560000) (hu : -7680000 ≤ u ∧ u ≤ 7680000) (hv : -7680000 ≤ v ∧ v ≤ 7680000) :
    Calls Try.prog 105 #[s3 1 wd 0, vv x y, vv u v] w fun e w' => e = .returned (.bool (decide ((u - x) * (u - x) + (v - y) * (v - y) ≤ wd * wd))) ∧ Below w.heap.size w w' := by
  have p := mul_bd (a := wd) (b := wd) (A := 25600) (B := 25600) (by omega) (by omega)
  have e1 : IntKind.i64.wrap (wd * wd) = wd * wd := i64w (by omega)
  have e2 : IntKind.i64.wrap (u - x) = u - x := i64w (by omega)
  have e3 : IntKind.i64.wrap (v - y) = v - y := i64w (by omega)
  have hset := cset_map
  go_enter Try.func105, Try.ntmps105
  go_wp2_with fail
  go_region_held3 (fun w' => w'.cell? ⟨w.heap.size, 0, none⟩ = some (.int .i64 1) ∧ w'.cell? ⟨w.heap.size, 1, none⟩ = some (.int .i64 wd) ∧ w'.cell? ⟨w.heap.size, 2, none⟩ = some (.int .i64 0) ∧ w'.cell? ⟨w.heap.size + 1, 0, none⟩ = some (.int .i64 x) ∧ w'.cell? ⟨w.heap.size + 1, 1, none⟩ = some (.int .i64 y) ∧ w'.cell? ⟨w.heap.size + 1 + 1, 0, none⟩ = some (.int .i64 u) ∧ w'.cell? ⟨w.heap.size + 1 + 1, 1, none⟩ = some (.int .i64 v)) (first | (go_simp; done) | (go_keep; done)) (first
    | (go_at_call 115; refine (l2Square_any _ _ _ (by omega) (by omega)).mono ?_; rintro e w1 ⟨rfl, hb1⟩; obtain ⟨hc1, hf1⟩ := bcell hb1; have hl1 := blt hb1; have hz1 := hb1.size; (try simp only [World.size_drew, World.size_alloc, World.size_setCell] at hc1 hf1 hl1 hz1); (try have hq1x0 : w.heap.size < w1.heap.size := (by omega)); (try have hq1x1 : w.heap.size + 1 < w1.heap.size := (by omega)); (try have hq1x2 : w.heap.size + 1 + 1 < w1.heap.size := (by omega))))
  all_goals
    go_wp2
  all_goals
    go_ret
    refine ⟨ret_bool ?_, by repeat (first | with_reducible apply Below.refl | (with_reducible apply Below.setCell; rotate_left; focus (first | omega | (simp; done) | (simp; omega))) | (with_reducible apply Below.alloc; rotate_left; focus (first | omega | (simp; done) | (simp; omega))) | with_reducible apply Below.drew | with_reducible apply belowDrewN | (with_reducible apply Below.trans; rotate_left; with_reducible apply Below.mono; with_reducible assumption; focus (first | omega | (simp; done) | (simp; omega))))⟩
    first | (simp [*]; done) | rfl

set_option maxHeartbeats 2000000 in
theorem l3Has_b (wd h x y u v : Int) (w : World) (h1 : 1 ≤ wd) (h2 : wd ≤ 25600) (h3 : 1 ≤ h) (h4 : h ≤ 25600) (hx : -2560000 ≤ x ∧ x ≤ 2560000) (hy : -2560000 ≤ y ∧ y ≤ 2560000) (hu : -7680000 ≤ u ∧ u ≤ 7680000) (hv : -7680000 ≤ v ∧ v ≤ 7680000) :
    Calls Try.prog 105 #[s3 2 wd h, vv x y, vv u v] w fun e w' => e = .returned (.bool (ptB (x - wd) (y - h) (x + wd) (y + h) u v)) ∧ Below w.heap.size w w' := by
  have hset := cset_map
  go_enter Try.func105, Try.ntmps105
  go_wp2_with fail
  go_region_held3 (fun w' => w'.cell? ⟨w.heap.size, 0, none⟩ = some (.int .i64 2) ∧ w'.cell? ⟨w.heap.size, 1, none⟩ = some (.int .i64 wd) ∧ w'.cell? ⟨w.heap.size, 2, none⟩ = some (.int .i64 h) ∧ w'.cell? ⟨w.heap.size + 1, 0, none⟩ = some (.int .i64 x) ∧ w'.cell? ⟨w.heap.size + 1, 1, none⟩ = some (.int .i64 y) ∧ w'.cell? ⟨w.heap.size + 1 + 1, 0, none⟩ = some (.int .i64 u) ∧ w'.cell? ⟨w.heap.size + 1 + 1, 1, none⟩ = some (.int .i64 v)) (first | (go_simp; done) | (go_keep; done)) (first
    | (go_at_call 78; refine (l3Bounds_b _ _ _ _ _ (by omega) (by omega) (by omega) (by omega) (by omega) (by omega)).mono ?_; rintro e w1 ⟨rfl, hb1⟩; obtain ⟨hc1, hf1⟩ := bcell hb1; have hl1 := blt hb1; have hz1 := hb1.size; (try simp only [World.size_drew, World.size_alloc, World.size_setCell] at hc1 hf1 hl1 hz1); (try have hq1x0 : w.heap.size < w1.heap.size := (by omega)); (try have hq1x1 : w.heap.size + 1 < w1.heap.size := (by omega)); (try have hq1x2 : w.heap.size + 1 + 1 < w1.heap.size := (by omega)))
    | (go_at_call 119; refine (l3Point_any _ _ _ _ _ _ _).mono ?_; rintro e w2 ⟨rfl, hb2⟩; obtain ⟨hc2, hf2⟩ := bcell hb2; have hl2 := blt hb2; have hz2 := hb2.size; (try simp only [World.size_drew, World.size_alloc, World.size_setCell] at hc2 hf2 hl2 hz2); (try have hq2x0 : w.heap.size < w2.heap.size := (by omega)); (try have hq2x1 : w.heap.size + 1 < w2.heap.size := (by omega)); (try have hq2x2 : w.heap.size + 1 + 1 < w2.heap.size := (by omega))))
  all_goals
    go_wp2
  all_goals
    go_ret
    refine ⟨ret_bool ?_, by repeat (first | with_reducible apply Below.refl | (with_reducible apply Below.setCell; rotate_left; focus (first | omega | (simp; done) | (simp; omega))) | (with_reducible apply Below.alloc; rotate_left; focus (first | omega | (simp; done) | (simp; omega))) | with_reducible apply Below.drew | with_reducible apply belowDrewN | (with_reducible apply Below.trans; rotate_left; with_reducible apply Below.mono; with_reducible assumption; focus (first | omega | (simp; done) | (simp; omega))))⟩
    first | (simp [*]; done) | rfl

end Go.Proofs.Ytnkebpbpempmhaa
