/- How two shapes touch, kind by kind, by the specification. How two shapes touch, by the specification. Bodies that touch, two by two: as numbers; a list that grows in a variable. Two operations of a drawn region that may come either way round: one reads, one lays a block. A body that is added to columns: twelve appends. Bodies as they were given, each in a row. All rows of some columns, told one by one. -/
import Derived.Test.YtneacpfdmocifaaGreatB2
import Derived.Test.YtneacpfdmocifaaGreatB1
import Derived.Deep.RegionHeld3
import Derived.Deep.DeepCutAuto
import Derived.LoopNIn
import Derived.LoopIn
import Derived.OwnWalkIn
import Derived.RangeFuncBound
import Derived.Shelf.Abstract
namespace Go.Proofs.YtneacpfdmocifaaGreat
open Go.RowKit
set_option linter.unusedVariables false
set_option linter.unusedSimpArgs false

theorem ux_bd2 {x y : Int} (hx : -6000000 ≤ x ∧ x ≤ 6000000) : -1600000000 ≤ ux x y ∧ ux x y ≤ 1600000000 := by
  unfold ux; split
  · omega
  · have := tdiv_bd (x := x * 256) (B := 1600000000) (vl x y) (by omega); exact this
theorem uy_bd2 {x y : Int} (hy : -6000000 ≤ y ∧ y ≤ 6000000) : -1600000000 ≤ uy x y ∧ uy x y ≤ 1600000000 := by
  unfold uy; split
  · omega
  · have := tdiv_bd (x := y * 256) (B := 1600000000) (vl x y) (by omega); exact this
theorem mxT_bd {a b c d x y g X Y D : Int} {K : Bool} (qa : -3000000 ≤ a ∧ a ≤ 3000000) (qb : -3000000 ≤ b ∧ b ≤ 3000000) (qc : -3000000 ≤ c ∧ c ≤ 3000000) (qd : -3000000 ≤ d ∧ d ≤ 3000000) (qx : -3000000 ≤ x ∧ x ≤ 3000000) (qy : -3000000 ≤ y ∧ y ≤ 3000000) (e : mxT a b c d x y g = ((X, Y, D), K)) :
    (-1600000000 ≤ X ∧ X ≤ 1600000000) ∧ (-1600000000 ≤ Y ∧ Y ≤ 1600000000) := by
  unfold mxT at e
  split at e
  · have hb := bsT_bd (s0 := c - x) (s1 := x - a) (s2 := d - y) (s3 := y - b) (B := 6000000) (by omega) (by omega) (by omega) (by omega)
    simp only [Prod.mk.injEq] at e
    obtain ⟨⟨eX, eY, eD⟩, eK⟩ := e
    omega
  · have n1 := near_in (a := a) (c := c) (x := x) (B := 3000000) (by omega) (by omega) (by omega)
    have n2 := near_in (a := b) (c := d) (x := y) (B := 3000000) (by omega) (by omega) (by omega)
    unfold rdT at e
    split at e
    · simp only [Prod.mk.injEq] at e
      obtain ⟨⟨eX, eY, eD⟩, eK⟩ := e
      have h1 := ux_bd2 (x := x - mn (mx x a) c) (y := y - mn (mx y b) d) (by omega)
      have h2 := uy_bd2 (x := x - mn (mx x a) c) (y := y - mn (mx y b) d) (by omega)
      omega
    · simp only [Prod.mk.injEq] at e
      obtain ⟨⟨eX, eY, eD⟩, eK⟩ := e
      omega
def tnT (m : (Int × Int × Int) × Bool) : (Int × Int × Int) × Bool := if m.2 = true then ((-m.1.1, -m.1.2.1, m.1.2.2), true) else ((0, 0, 0), false)

set_option maxHeartbeats 4000000 in
theorem sT_rr (g1 g2 x y u v X Y D : Int) (K : Bool) (w : World) (lg1 : 1 ≤ g1 ∧ g1 ≤ 25600) (lg2 : 1 ≤ g2 ∧ g2 ≤ 25600) (px : -2560000 ≤ x ∧ x ≤ 2560000) (py : -2560000 ≤ y ∧ y ≤ 2560000) (pu : -2560000 ≤ u ∧ u ≤ 2560000) (pv : -2560000 ≤ v ∧ v ≤ 2560000) (e : rdT (u - x) (v - y) (g1 + g2) = ((X, Y, D), K)) :
    Calls Tryz.prog 106 #[s3 1 g1 0, vv x y, s3 1 g2 0, vv u v] w fun e w' => e = .returned (.tuple #[s3 X Y D, .bool K]) ∧ Below w.heap.size w w' := by
  have hset := cset_map
  have w1 := i64w (n := g1 + g2) (by omega)
  go_enter Tryz.func106, Tryz.ntmps106
  go_wp2_with (go_at_call 113; refine (l5Rounds_q _ _ _ _ _ X Y D _ _ (by omega) (by omega) (by omega) (by omega) (by omega) e).mono ?_; rintro e w1 ⟨rfl, hb1⟩; obtain ⟨hc1, hf1⟩ := bcell hb1; have hz1 := hb1.size; (try simp only [World.size_drew, World.size_alloc, World.size_setCell] at hc1 hf1 hz1); obtain ⟨hk1x0, hj1x0, hq1x0⟩ := kfa hb1 (w.heap.size); obtain ⟨hk1x1, hj1x1, hq1x1⟩ := kfa hb1 (w.heap.size + 1); obtain ⟨hk1x2, hj1x2, hq1x2⟩ := kfa hb1 (w.heap.size + 1 + 1); obtain ⟨hk1x3, hj1x3, hq1x3⟩ := kfa hb1 (w.heap.size + 1 + 1 + 1); obtain ⟨hk1x4, hj1x4, hq1x4⟩ := kfa hb1 (w.heap.size + 1 + 1 + 1 + 1); clear hc1 hf1)
  exact bodyPost_ret (v := .tuple #[s3 X Y D, .bool K]) (by simp [results, Tryz.results106, go_sem, *]) rfl ⟨rfl, bel_a⟩

set_option maxHeartbeats 4000000 in
theorem sT_bb (g1 h1 g2 h2 x y u v X Y D : Int) (K : Bool) (w : World) (lg1 : 1 ≤ g1 ∧ g1 ≤ 25600) (lh1 : 1 ≤ h1 ∧ h1 ≤ 25600) (lg2 : 1 ≤ g2 ∧ g2 ≤ 25600) (lh2 : 1 ≤ h2 ∧ h2 ≤ 25600) (px : -2560000 ≤ x ∧ x ≤ 2560000) (py : -2560000 ≤ y ∧ y ≤ 2560000) (pu : -2560000 ≤ u ∧ u ≤ 2560000) (pv : -2560000 ≤ v ∧ v ≤ 2560000) (e : bxT (x - g1) (y - h1) (x + g1) (y + h1) (u - g2) (v - h2) (u + g2) (v + h2) = ((X, Y, D), K)) :
    Calls Tryz.prog 106 #[s3 2 g1 h1, vv x y, s3 2 g2 h2, vv u v] w fun e w' => e = .returned (.tuple #[s3 X Y D, .bool K]) ∧ Below w.heap.size w w' := by
  have hset := cset_map
  go_enter Tryz.func106, Tryz.ntmps106
  go_upto_region 4 with fail
  refine wp_region_held_drew (S := fun w' => w'.cell? ⟨w.heap.size, 0, none⟩ = some (.int .i64 2) ∧ w'.cell? ⟨w.heap.size, 1, none⟩ = some (.int .i64 g1) ∧ w'.cell? ⟨w.heap.size, 2, none⟩ = some (.int .i64 h1) ∧ w'.cell? ⟨w.heap.size + 1, 0, none⟩ = some (.int .i64 x) ∧ w'.cell? ⟨w.heap.size + 1, 1, none⟩ = some (.int .i64 y) ∧ w'.cell? ⟨w.heap.size + 1 + 1, 0, none⟩ = some (.int .i64 2) ∧ w'.cell? ⟨w.heap.size + 1 + 1, 1, none⟩ = some (.int .i64 g2) ∧ w'.cell? ⟨w.heap.size + 1 + 1, 2, none⟩ = some (.int .i64 h2) ∧ w'.cell? ⟨w.heap.size + 1 + 1 + 1, 0, none⟩ = some (.int .i64 u) ∧ w'.cell? ⟨w.heap.size + 1 + 1 + 1, 1, none⟩ = some (.int .i64 v)) (by kernel_rfl) ?_ (fun hHeld => ?_)
  · (try dsimp only)
    (first | (go_simp; done) | (go_keep; done))
  refine tq 0 hHeld ?_
  refine tq 1 hHeld ?_
  refine tq 3 hHeld ?_
  refine tq 4 hHeld ?_
  (refine tc 2 fun K hK => ?_; go_simp; (go_at_call 115; refine (l3Bounds_b _ _ _ _ _ (by omega) (by omega) (by omega) (by omega) (by omega) (by omega)).mono ?_; rintro e w1 ⟨rfl, hb1⟩; obtain ⟨hc1, hf1⟩ := bcell hb1; have hz1 := hb1.size; (try simp only [World.size_drew, World.size_alloc, World.size_setCell] at hc1 hf1 hz1); obtain ⟨hk1x0, hj1x0, hq1x0⟩ := kfa hb1 (w.heap.size); obtain ⟨hk1x1, hj1x1, hq1x1⟩ := kfa hb1 (w.heap.size + 1); obtain ⟨hk1x2, hj1x2, hq1x2⟩ := kfa hb1 (w.heap.size + 1 + 1); obtain ⟨hk1x3, hj1x3, hq1x3⟩ := kfa hb1 (w.heap.size + 1 + 1 + 1); obtain ⟨hk1x4, hj1x4, hq1x4⟩ := kfa hb1 (w.heap.size + 1 + 1 + 1 + 1); clear hc1 hf1); (try go_wp2_with fail); refine tr hK (fun hHeld => ?_); clear hK K)
  (refine tc 5 fun K hK => ?_; go_simp; (go_at_call 115; refine (l3Bounds_b _ _ _ _ _ (by omega) (by omega) (by omega) (by omega) (by omega) (by omega)).mono ?_; rintro e w2 ⟨rfl, hb2⟩; obtain ⟨hc2, hf2⟩ := bcell hb2; have hz2 := hb2.size; (try simp only [World.size_drew, World.size_alloc, World.size_setCell] at hc2 hf2 hz2); obtain ⟨hk2x0, hj2x0, hq2x0⟩ := kfa hb2 (w.heap.size); obtain ⟨hk2x1, hj2x1, hq2x1⟩ := kfa hb2 (w.heap.size + 1); obtain ⟨hk2x2, hj2x2, hq2x2⟩ := kfa hb2 (w.heap.size + 1 + 1); obtain ⟨hk2x3, hj2x3, hq2x3⟩ := kfa hb2 (w.heap.size + 1 + 1 + 1); obtain ⟨hk2x4, hj2x4, hq2x4⟩ := kfa hb2 (w.heap.size + 1 + 1 + 1 + 1); clear hc2 hf2); (try go_wp2_with fail); refine tr hK (fun hHeld => ?_); clear hK K)
  (refine tc 6 fun K hK => ?_; go_simp; (go_at_call 114; refine (l5Boxes_q _ _ _ _ _ _ _ _ X Y D _ _ (by omega) (by omega) (by omega) (by omega) (by omega) (by omega) (by omega) (by omega) e).mono ?_; rintro e w3 ⟨rfl, hb3⟩; obtain ⟨hc3, hf3⟩ := bcell hb3; have hz3 := hb3.size; (try simp only [World.size_drew, World.size_alloc, World.size_setCell] at hc3 hf3 hz3); obtain ⟨hk3x0, hj3x0, hq3x0⟩ := kfa hb3 (w.heap.size); obtain ⟨hk3x1, hj3x1, hq3x1⟩ := kfa hb3 (w.heap.size + 1); obtain ⟨hk3x2, hj3x2, hq3x2⟩ := kfa hb3 (w.heap.size + 1 + 1); obtain ⟨hk3x3, hj3x3, hq3x3⟩ := kfa hb3 (w.heap.size + 1 + 1 + 1); obtain ⟨hk3x4, hj3x4, hq3x4⟩ := kfa hb3 (w.heap.size + 1 + 1 + 1 + 1); clear hc3 hf3); (try go_wp2_with fail); refine tr hK (fun hHeld => ?_); clear hK K)
  refine tq 7 hHeld ?_
  refine tq 8 hHeld ?_
  (refine tc 9 fun K hK => ?_; go_simp; refine tr hK (fun hHeld => ?_); clear hK K)
  refine tq 10 hHeld ?_
  refine wpAnyH_done (by kernel_rfl) ?_ _
  go_wp2_with fail
  exact bodyPost_ret (v := .tuple #[s3 X Y D, .bool K]) (by simp [results, Tryz.results106, go_sem, *]) rfl ⟨rfl, bel_a⟩
set_option maxHeartbeats 4000000 in
theorem sT_br (g1 h1 g2 x y u v X Y D : Int) (K : Bool) (w : World) (lg1 : 1 ≤ g1 ∧ g1 ≤ 25600) (lh1 : 1 ≤ h1 ∧ h1 ≤ 25600) (lg2 : 1 ≤ g2 ∧ g2 ≤ 25600) (px : -2560000 ≤ x ∧ x ≤ 2560000) (py : -2560000 ≤ y ∧ y ≤ 2560000) (pu : -2560000 ≤ u ∧ u ≤ 2560000) (pv : -2560000 ≤ v ∧ v ≤ 2560000) (e : mxT (x - g1) (y - h1) (x + g1) (y + h1) u v g2 = ((X, Y, D), K)) :
    Calls Tryz.prog 106 #[s3 2 g1 h1, vv x y, s3 1 g2 0, vv u v] w fun e w' => e = .returned (.tuple #[s3 X Y D, .bool K]) ∧ Below w.heap.size w w' := by
  have hset := cset_map
  go_enter Tryz.func106, Tryz.ntmps106
  go_upto_region 6 with fail
  refine wp_region_held_drew (S := fun w' => w'.cell? ⟨w.heap.size, 0, none⟩ = some (.int .i64 2) ∧ w'.cell? ⟨w.heap.size, 1, none⟩ = some (.int .i64 g1) ∧ w'.cell? ⟨w.heap.size, 2, none⟩ = some (.int .i64 h1) ∧ w'.cell? ⟨w.heap.size + 1, 0, none⟩ = some (.int .i64 x) ∧ w'.cell? ⟨w.heap.size + 1, 1, none⟩ = some (.int .i64 y) ∧ w'.cell? ⟨w.heap.size + 1 + 1, 0, none⟩ = some (.int .i64 1) ∧ w'.cell? ⟨w.heap.size + 1 + 1, 1, none⟩ = some (.int .i64 g2) ∧ w'.cell? ⟨w.heap.size + 1 + 1, 2, none⟩ = some (.int .i64 0) ∧ w'.cell? ⟨w.heap.size + 1 + 1 + 1, 0, none⟩ = some (.int .i64 u) ∧ w'.cell? ⟨w.heap.size + 1 + 1 + 1, 1, none⟩ = some (.int .i64 v)) (by kernel_rfl) ?_ (fun hHeld => ?_)
  · (try dsimp only)
    (first | (go_simp; done) | (go_keep; done))
  refine tq 0 hHeld ?_
  refine tq 1 hHeld ?_
  refine tq 3 hHeld ?_
  refine tq 4 hHeld ?_
  refine tq 5 hHeld ?_
  (refine tc 2 fun K hK => ?_; go_simp; (go_at_call 115; refine (l3Bounds_b _ _ _ _ _ (by omega) (by omega) (by omega) (by omega) (by omega) (by omega)).mono ?_; rintro e w1 ⟨rfl, hb1⟩; obtain ⟨hc1, hf1⟩ := bcell hb1; have hz1 := hb1.size; (try simp only [World.size_drew, World.size_alloc, World.size_setCell] at hc1 hf1 hz1); obtain ⟨hk1x0, hj1x0, hq1x0⟩ := kfa hb1 (w.heap.size); obtain ⟨hk1x1, hj1x1, hq1x1⟩ := kfa hb1 (w.heap.size + 1); obtain ⟨hk1x2, hj1x2, hq1x2⟩ := kfa hb1 (w.heap.size + 1 + 1); obtain ⟨hk1x3, hj1x3, hq1x3⟩ := kfa hb1 (w.heap.size + 1 + 1 + 1); obtain ⟨hk1x4, hj1x4, hq1x4⟩ := kfa hb1 (w.heap.size + 1 + 1 + 1 + 1); clear hc1 hf1); (try go_wp2_with fail); refine tr hK (fun hHeld => ?_); clear hK K)
  (refine tc 6 fun K hK => ?_; go_simp; (go_at_call 116; refine (l5Mixed_q _ _ _ _ _ _ _ X Y D _ _ (by omega) (by omega) (by omega) (by omega) (by omega) (by omega) (by omega) e).mono ?_; rintro e w2 ⟨rfl, hb2⟩; obtain ⟨hc2, hf2⟩ := bcell hb2; have hz2 := hb2.size; (try simp only [World.size_drew, World.size_alloc, World.size_setCell] at hc2 hf2 hz2); obtain ⟨hk2x0, hj2x0, hq2x0⟩ := kfa hb2 (w.heap.size); obtain ⟨hk2x1, hj2x1, hq2x1⟩ := kfa hb2 (w.heap.size + 1); obtain ⟨hk2x2, hj2x2, hq2x2⟩ := kfa hb2 (w.heap.size + 1 + 1); obtain ⟨hk2x3, hj2x3, hq2x3⟩ := kfa hb2 (w.heap.size + 1 + 1 + 1); obtain ⟨hk2x4, hj2x4, hq2x4⟩ := kfa hb2 (w.heap.size + 1 + 1 + 1 + 1); clear hc2 hf2); (try go_wp2_with fail); refine tr hK (fun hHeld => ?_); clear hK K)
  refine tq 7 hHeld ?_
  refine tq 8 hHeld ?_
  (refine tc 9 fun K hK => ?_; go_simp; refine tr hK (fun hHeld => ?_); clear hK K)
  refine tq 10 hHeld ?_
  refine wpAnyH_done (by kernel_rfl) ?_ _
  go_wp2_with fail
  exact bodyPost_ret (v := .tuple #[s3 X Y D, .bool K]) (by simp [results, Tryz.results106, go_sem, *]) rfl ⟨rfl, bel_a⟩

set_option maxHeartbeats 8000000 in
theorem sT_rb (g1 g2 h2 x y u v X Y D : Int) (K : Bool) (w : World) (lg1 : 1 ≤ g1 ∧ g1 ≤ 25600) (lg2 : 1 ≤ g2 ∧ g2 ≤ 25600) (lh2 : 1 ≤ h2 ∧ h2 ≤ 25600) (px : -2560000 ≤ x ∧ x ≤ 2560000) (py : -2560000 ≤ y ∧ y ≤ 2560000) (pu : -2560000 ≤ u ∧ u ≤ 2560000) (pv : -2560000 ≤ v ∧ v ≤ 2560000) (e : tnT (mxT (u - g2) (v - h2) (u + g2) (v + h2) x y g1) = ((X, Y, D), K)) :
    Calls Tryz.prog 106 #[s3 1 g1 0, vv x y, s3 2 g2 h2, vv u v] w fun e w' => e = .returned (.tuple #[s3 X Y D, .bool K]) ∧ Below w.heap.size w w' := by
  have hset := cset_map
  obtain ⟨⟨⟨P, Q, E⟩, Z⟩, eM⟩ : ∃ z, mxT (u - g2) (v - h2) (u + g2) (v + h2) x y g1 = z := ⟨_, rfl⟩
  obtain ⟨hP, hQ⟩ := mxT_bd (by omega) (by omega) (by omega) (by omega) (by omega) (by omega) eM
  rw [eM] at e
  unfold tnT at e
  cases Z with
  | true =>
    simp only [if_true, Prod.mk.injEq] at e
    obtain ⟨⟨eX, eY, eD⟩, eK⟩ := e
    subst eX
    subst eY
    subst eD
    subst eK
    go_enter Tryz.func106, Tryz.ntmps106
    go_upto_region 7 with fail
    refine wp_region_held_drew (S := fun w' => w'.cell? ⟨w.heap.size, 0, none⟩ = some (.int .i64 1) ∧ w'.cell? ⟨w.heap.size, 1, none⟩ = some (.int .i64 g1) ∧ w'.cell? ⟨w.heap.size, 2, none⟩ = some (.int .i64 0) ∧ w'.cell? ⟨w.heap.size + 1, 0, none⟩ = some (.int .i64 x) ∧ w'.cell? ⟨w.heap.size + 1, 1, none⟩ = some (.int .i64 y) ∧ w'.cell? ⟨w.heap.size + 1 + 1, 0, none⟩ = some (.int .i64 2) ∧ w'.cell? ⟨w.heap.size + 1 + 1, 1, none⟩ = some (.int .i64 g2) ∧ w'.cell? ⟨w.heap.size + 1 + 1, 2, none⟩ = some (.int .i64 h2) ∧ w'.cell? ⟨w.heap.size + 1 + 1 + 1, 0, none⟩ = some (.int .i64 u) ∧ w'.cell? ⟨w.heap.size + 1 + 1 + 1, 1, none⟩ = some (.int .i64 v)) (by kernel_rfl) ?_ (fun hHeld => ?_)
    · (try dsimp only)
      (first | (go_simp; done) | (go_keep; done))
    refine tq 0 hHeld ?_
    refine tq 1 hHeld ?_
    refine tq 3 hHeld ?_
    refine tq 4 hHeld ?_
    refine tq 5 hHeld ?_
    refine wpAnyH_ready (rs := [2, 10]) (by kernel_rfl) (by simp) ?_
    refine AllReadyH.cons rfl (fun K hK => ?_) (AllReadyH.cons rfl (fun K hK => ?_) AllReadyH.nil)
    · (go_simp; (go_at_call 115; refine (l3Bounds_b _ _ _ _ _ (by omega) (by omega) (by omega) (by omega) (by omega) (by omega)).mono ?_; rintro e w1 ⟨rfl, hb1⟩; obtain ⟨hc1, hf1⟩ := bcell hb1; have hz1 := hb1.size; (try simp only [World.size_drew, World.size_alloc, World.size_setCell] at hc1 hf1 hz1); obtain ⟨hk1x0, hj1x0, hq1x0⟩ := kfa hb1 (w.heap.size); obtain ⟨hk1x1, hj1x1, hq1x1⟩ := kfa hb1 (w.heap.size + 1); obtain ⟨hk1x2, hj1x2, hq1x2⟩ := kfa hb1 (w.heap.size + 1 + 1); obtain ⟨hk1x3, hj1x3, hq1x3⟩ := kfa hb1 (w.heap.size + 1 + 1 + 1); obtain ⟨hk1x4, hj1x4, hq1x4⟩ := kfa hb1 (w.heap.size + 1 + 1 + 1 + 1); (try have hk1y0 := fun o => hc1 (w.heap.size + 1 + 1 + 1 + 1 + 1) o (by omega)); (try have hj1y0 := fun o => hf1 (w.heap.size + 1 + 1 + 1 + 1 + 1) o (by omega)); (try have hq1y0 : w.heap.size + 1 + 1 + 1 + 1 + 1 < w1.heap.size := (by omega)); (try have hr1y0 : (w.heap.size + 1 + 1 + 1 + 1 + 1 = w1.heap.size) = False := eq_false (by omega)); (try have ht1y0 : (w1.heap.size = w.heap.size + 1 + 1 + 1 + 1 + 1) = False := eq_false (by omega)); clear hc1 hf1); (try go_wp2_with fail); refine tr hK (fun hHeld => ?_); clear hK K)
      refine wpAnyH_ready (rs := [6, 10]) (by kernel_rfl) (by simp) ?_
      refine AllReadyH.cons rfl (fun K hK => ?_) (AllReadyH.cons rfl (fun K hK => ?_) AllReadyH.nil)
      · (go_simp; (go_at_call 116; refine (l5Mixed_q _ _ _ _ _ _ _ P Q E true _ (by omega) (by omega) (by omega) (by omega) (by omega) (by omega) (by omega) eM).mono ?_; rintro e w2 ⟨rfl, hb2⟩; obtain ⟨hc2, hf2⟩ := bcell hb2; have hz2 := hb2.size; (try simp only [World.size_drew, World.size_alloc, World.size_setCell] at hc2 hf2 hz2); obtain ⟨hk2x0, hj2x0, hq2x0⟩ := kfa hb2 (w.heap.size); obtain ⟨hk2x1, hj2x1, hq2x1⟩ := kfa hb2 (w.heap.size + 1); obtain ⟨hk2x2, hj2x2, hq2x2⟩ := kfa hb2 (w.heap.size + 1 + 1); obtain ⟨hk2x3, hj2x3, hq2x3⟩ := kfa hb2 (w.heap.size + 1 + 1 + 1); obtain ⟨hk2x4, hj2x4, hq2x4⟩ := kfa hb2 (w.heap.size + 1 + 1 + 1 + 1); (try have hk2y0 := fun o => hc2 (w.heap.size + 1 + 1 + 1 + 1 + 1) o (by omega)); (try have hj2y0 := fun o => hf2 (w.heap.size + 1 + 1 + 1 + 1 + 1) o (by omega)); (try have hq2y0 : w.heap.size + 1 + 1 + 1 + 1 + 1 < w2.heap.size := (by omega)); (try have hr2y0 : (w.heap.size + 1 + 1 + 1 + 1 + 1 = w2.heap.size) = False := eq_false (by omega)); (try have ht2y0 : (w2.heap.size = w.heap.size + 1 + 1 + 1 + 1 + 1) = False := eq_false (by omega)); (try have hk2y1 := fun o => hc2 (w1.heap.size) o (by omega)); (try have hj2y1 := fun o => hf2 (w1.heap.size) o (by omega)); (try have hq2y1 : w1.heap.size < w2.heap.size := (by omega)); (try have hr2y1 : (w1.heap.size = w2.heap.size) = False := eq_false (by omega)); (try have ht2y1 : (w2.heap.size = w1.heap.size) = False := eq_false (by omega)); clear hc2 hf2); (try go_wp2_with fail); refine tr hK (fun hHeld => ?_); clear hK K)
        refine tq 7 hHeld ?_
        refine tq 8 hHeld ?_
        refine tq 9 hHeld ?_
        (refine tc 10 fun K hK => ?_; go_simp; refine tr hK (fun hHeld => ?_); clear hK K)
        (refine tc 11 fun K hK => ?_; go_simp; refine tr hK (fun hHeld => ?_); clear hK K)
        refine tq 12 hHeld ?_
        refine wpAnyH_done (by kernel_rfl) ?_ _
        go_wp2_with (go_at_call 117; refine (l5Turn_q _ _ _ _ (by omega) (by omega)).mono ?_; rintro e w5 ⟨rfl, hb5⟩; obtain ⟨hc5, hf5⟩ := bcell hb5; have hz5 := hb5.size; (try simp only [World.size_drew, World.size_alloc, World.size_setCell] at hc5 hf5 hz5); obtain ⟨hk5x0, hj5x0, hq5x0⟩ := kfa hb5 (w.heap.size); obtain ⟨hk5x1, hj5x1, hq5x1⟩ := kfa hb5 (w.heap.size + 1); obtain ⟨hk5x2, hj5x2, hq5x2⟩ := kfa hb5 (w.heap.size + 1 + 1); obtain ⟨hk5x3, hj5x3, hq5x3⟩ := kfa hb5 (w.heap.size + 1 + 1 + 1); obtain ⟨hk5x4, hj5x4, hq5x4⟩ := kfa hb5 (w.heap.size + 1 + 1 + 1 + 1); clear hc5 hf5)
        exact bodyPost_ret (v := .tuple #[s3 (-P) (-Q) E, .bool true]) (by simp [results, Tryz.results106, go_sem, *]) rfl ⟨rfl, bel_a⟩
      · (go_simp; refine tr hK (fun hHeld => ?_); clear hK K)
        (refine tc 6 fun K hK => ?_; go_simp; (go_at_call 116; refine (l5Mixed_q _ _ _ _ _ _ _ P Q E true _ (by omega) (by omega) (by omega) (by omega) (by omega) (by omega) (by omega) eM).mono ?_; rintro e w2 ⟨rfl, hb2⟩; obtain ⟨hc2, hf2⟩ := bcell hb2; have hz2 := hb2.size; (try simp only [World.size_drew, World.size_alloc, World.size_setCell] at hc2 hf2 hz2); obtain ⟨hk2x0, hj2x0, hq2x0⟩ := kfa hb2 (w.heap.size); obtain ⟨hk2x1, hj2x1, hq2x1⟩ := kfa hb2 (w.heap.size + 1); obtain ⟨hk2x2, hj2x2, hq2x2⟩ := kfa hb2 (w.heap.size + 1 + 1); obtain ⟨hk2x3, hj2x3, hq2x3⟩ := kfa hb2 (w.heap.size + 1 + 1 + 1); obtain ⟨hk2x4, hj2x4, hq2x4⟩ := kfa hb2 (w.heap.size + 1 + 1 + 1 + 1); (try have hk2y0 := fun o => hc2 (w.heap.size + 1 + 1 + 1 + 1 + 1) o (by omega)); (try have hj2y0 := fun o => hf2 (w.heap.size + 1 + 1 + 1 + 1 + 1) o (by omega)); (try have hq2y0 : w.heap.size + 1 + 1 + 1 + 1 + 1 < w2.heap.size := (by omega)); (try have hr2y0 : (w.heap.size + 1 + 1 + 1 + 1 + 1 = w2.heap.size) = False := eq_false (by omega)); (try have ht2y0 : (w2.heap.size = w.heap.size + 1 + 1 + 1 + 1 + 1) = False := eq_false (by omega)); (try have hk2y1 := fun o => hc2 (w1.heap.size) o (by omega)); (try have hj2y1 := fun o => hf2 (w1.heap.size) o (by omega)); (try have hq2y1 : w1.heap.size < w2.heap.size := (by omega)); (try have hr2y1 : (w1.heap.size = w2.heap.size) = False := eq_false (by omega)); (try have ht2y1 : (w2.heap.size = w1.heap.size) = False := eq_false (by omega)); clear hc2 hf2); (try go_wp2_with fail); refine tr hK (fun hHeld => ?_); clear hK K)
        refine tq 7 hHeld ?_
        refine tq 8 hHeld ?_
        refine tq 9 hHeld ?_
        (refine tc 11 fun K hK => ?_; go_simp; refine tr hK (fun hHeld => ?_); clear hK K)
        refine tq 12 hHeld ?_
        refine wpAnyH_done (by kernel_rfl) ?_ _
        go_wp2_with (go_at_call 117; refine (l5Turn_q _ _ _ _ (by omega) (by omega)).mono ?_; rintro e w5 ⟨rfl, hb5⟩; obtain ⟨hc5, hf5⟩ := bcell hb5; have hz5 := hb5.size; (try simp only [World.size_drew, World.size_alloc, World.size_setCell] at hc5 hf5 hz5); obtain ⟨hk5x0, hj5x0, hq5x0⟩ := kfa hb5 (w.heap.size); obtain ⟨hk5x1, hj5x1, hq5x1⟩ := kfa hb5 (w.heap.size + 1); obtain ⟨hk5x2, hj5x2, hq5x2⟩ := kfa hb5 (w.heap.size + 1 + 1); obtain ⟨hk5x3, hj5x3, hq5x3⟩ := kfa hb5 (w.heap.size + 1 + 1 + 1); obtain ⟨hk5x4, hj5x4, hq5x4⟩ := kfa hb5 (w.heap.size + 1 + 1 + 1 + 1); clear hc5 hf5)
        exact bodyPost_ret (v := .tuple #[s3 (-P) (-Q) E, .bool true]) (by simp [results, Tryz.results106, go_sem, *]) rfl ⟨rfl, bel_a⟩
    · (go_simp; refine tr hK (fun hHeld => ?_); clear hK K)
      (refine tc 2 fun K hK => ?_; go_simp; (go_at_call 115; refine (l3Bounds_b _ _ _ _ _ (by omega) (by omega) (by omega) (by omega) (by omega) (by omega)).mono ?_; rintro e w1 ⟨rfl, hb1⟩; obtain ⟨hc1, hf1⟩ := bcell hb1; have hz1 := hb1.size; (try simp only [World.size_drew, World.size_alloc, World.size_setCell] at hc1 hf1 hz1); obtain ⟨hk1x0, hj1x0, hq1x0⟩ := kfa hb1 (w.heap.size); obtain ⟨hk1x1, hj1x1, hq1x1⟩ := kfa hb1 (w.heap.size + 1); obtain ⟨hk1x2, hj1x2, hq1x2⟩ := kfa hb1 (w.heap.size + 1 + 1); obtain ⟨hk1x3, hj1x3, hq1x3⟩ := kfa hb1 (w.heap.size + 1 + 1 + 1); obtain ⟨hk1x4, hj1x4, hq1x4⟩ := kfa hb1 (w.heap.size + 1 + 1 + 1 + 1); (try have hk1y0 := fun o => hc1 (w.heap.size + 1 + 1 + 1 + 1 + 1) o (by omega)); (try have hj1y0 := fun o => hf1 (w.heap.size + 1 + 1 + 1 + 1 + 1) o (by omega)); (try have hq1y0 : w.heap.size + 1 + 1 + 1 + 1 + 1 < w1.heap.size := (by omega)); (try have hr1y0 : (w.heap.size + 1 + 1 + 1 + 1 + 1 = w1.heap.size) = False := eq_false (by omega)); (try have ht1y0 : (w1.heap.size = w.heap.size + 1 + 1 + 1 + 1 + 1) = False := eq_false (by omega)); clear hc1 hf1); (try go_wp2_with fail); refine tr hK (fun hHeld => ?_); clear hK K)
      (refine tc 6 fun K hK => ?_; go_simp; (go_at_call 116; refine (l5Mixed_q _ _ _ _ _ _ _ P Q E true _ (by omega) (by omega) (by omega) (by omega) (by omega) (by omega) (by omega) eM).mono ?_; rintro e w2 ⟨rfl, hb2⟩; obtain ⟨hc2, hf2⟩ := bcell hb2; have hz2 := hb2.size; (try simp only [World.size_drew, World.size_alloc, World.size_setCell] at hc2 hf2 hz2); obtain ⟨hk2x0, hj2x0, hq2x0⟩ := kfa hb2 (w.heap.size); obtain ⟨hk2x1, hj2x1, hq2x1⟩ := kfa hb2 (w.heap.size + 1); obtain ⟨hk2x2, hj2x2, hq2x2⟩ := kfa hb2 (w.heap.size + 1 + 1); obtain ⟨hk2x3, hj2x3, hq2x3⟩ := kfa hb2 (w.heap.size + 1 + 1 + 1); obtain ⟨hk2x4, hj2x4, hq2x4⟩ := kfa hb2 (w.heap.size + 1 + 1 + 1 + 1); (try have hk2y0 := fun o => hc2 (w.heap.size + 1 + 1 + 1 + 1 + 1) o (by omega)); (try have hj2y0 := fun o => hf2 (w.heap.size + 1 + 1 + 1 + 1 + 1) o (by omega)); (try have hq2y0 : w.heap.size + 1 + 1 + 1 + 1 + 1 < w2.heap.size := (by omega)); (try have hr2y0 : (w.heap.size + 1 + 1 + 1 + 1 + 1 = w2.heap.size) = False := eq_false (by omega)); (try have ht2y0 : (w2.heap.size = w.heap.size + 1 + 1 + 1 + 1 + 1) = False := eq_false (by omega)); (try have hk2y1 := fun o => hc2 (w1.heap.size) o (by omega)); (try have hj2y1 := fun o => hf2 (w1.heap.size) o (by omega)); (try have hq2y1 : w1.heap.size < w2.heap.size := (by omega)); (try have hr2y1 : (w1.heap.size = w2.heap.size) = False := eq_false (by omega)); (try have ht2y1 : (w2.heap.size = w1.heap.size) = False := eq_false (by omega)); clear hc2 hf2); (try go_wp2_with fail); refine tr hK (fun hHeld => ?_); clear hK K)
      refine tq 7 hHeld ?_
      refine tq 8 hHeld ?_
      refine tq 9 hHeld ?_
      (refine tc 11 fun K hK => ?_; go_simp; refine tr hK (fun hHeld => ?_); clear hK K)
      refine tq 12 hHeld ?_
      refine wpAnyH_done (by kernel_rfl) ?_ _
      go_wp2_with (go_at_call 117; refine (l5Turn_q _ _ _ _ (by omega) (by omega)).mono ?_; rintro e w5 ⟨rfl, hb5⟩; obtain ⟨hc5, hf5⟩ := bcell hb5; have hz5 := hb5.size; (try simp only [World.size_drew, World.size_alloc, World.size_setCell] at hc5 hf5 hz5); obtain ⟨hk5x0, hj5x0, hq5x0⟩ := kfa hb5 (w.heap.size); obtain ⟨hk5x1, hj5x1, hq5x1⟩ := kfa hb5 (w.heap.size + 1); obtain ⟨hk5x2, hj5x2, hq5x2⟩ := kfa hb5 (w.heap.size + 1 + 1); obtain ⟨hk5x3, hj5x3, hq5x3⟩ := kfa hb5 (w.heap.size + 1 + 1 + 1); obtain ⟨hk5x4, hj5x4, hq5x4⟩ := kfa hb5 (w.heap.size + 1 + 1 + 1 + 1); clear hc5 hf5)
      exact bodyPost_ret (v := .tuple #[s3 (-P) (-Q) E, .bool true]) (by simp [results, Tryz.results106, go_sem, *]) rfl ⟨rfl, bel_a⟩
  | false =>
    rw [if_neg (by simp)] at e
    simp only [Prod.mk.injEq] at e
    obtain ⟨⟨eX, eY, eD⟩, eK⟩ := e
    subst eX
    subst eY
    subst eD
    subst eK
    go_enter Tryz.func106, Tryz.ntmps106
    go_upto_region 7 with fail
    refine wp_region_held_drew (S := fun w' => w'.cell? ⟨w.heap.size, 0, none⟩ = some (.int .i64 1) ∧ w'.cell? ⟨w.heap.size, 1, none⟩ = some (.int .i64 g1) ∧ w'.cell? ⟨w.heap.size, 2, none⟩ = some (.int .i64 0) ∧ w'.cell? ⟨w.heap.size + 1, 0, none⟩ = some (.int .i64 x) ∧ w'.cell? ⟨w.heap.size + 1, 1, none⟩ = some (.int .i64 y) ∧ w'.cell? ⟨w.heap.size + 1 + 1, 0, none⟩ = some (.int .i64 2) ∧ w'.cell? ⟨w.heap.size + 1 + 1, 1, none⟩ = some (.int .i64 g2) ∧ w'.cell? ⟨w.heap.size + 1 + 1, 2, none⟩ = some (.int .i64 h2) ∧ w'.cell? ⟨w.heap.size + 1 + 1 + 1, 0, none⟩ = some (.int .i64 u) ∧ w'.cell? ⟨w.heap.size + 1 + 1 + 1, 1, none⟩ = some (.int .i64 v)) (by kernel_rfl) ?_ (fun hHeld => ?_)
    · (try dsimp only)
      (first | (go_simp; done) | (go_keep; done))
    refine tq 0 hHeld ?_
    refine tq 1 hHeld ?_
    refine tq 3 hHeld ?_
    refine tq 4 hHeld ?_
    refine tq 5 hHeld ?_
    refine wpAnyH_ready (rs := [2, 10]) (by kernel_rfl) (by simp) ?_
    refine AllReadyH.cons rfl (fun K hK => ?_) (AllReadyH.cons rfl (fun K hK => ?_) AllReadyH.nil)
    · (go_simp; (go_at_call 115; refine (l3Bounds_b _ _ _ _ _ (by omega) (by omega) (by omega) (by omega) (by omega) (by omega)).mono ?_; rintro e w1 ⟨rfl, hb1⟩; obtain ⟨hc1, hf1⟩ := bcell hb1; have hz1 := hb1.size; (try simp only [World.size_drew, World.size_alloc, World.size_setCell] at hc1 hf1 hz1); obtain ⟨hk1x0, hj1x0, hq1x0⟩ := kfa hb1 (w.heap.size); obtain ⟨hk1x1, hj1x1, hq1x1⟩ := kfa hb1 (w.heap.size + 1); obtain ⟨hk1x2, hj1x2, hq1x2⟩ := kfa hb1 (w.heap.size + 1 + 1); obtain ⟨hk1x3, hj1x3, hq1x3⟩ := kfa hb1 (w.heap.size + 1 + 1 + 1); obtain ⟨hk1x4, hj1x4, hq1x4⟩ := kfa hb1 (w.heap.size + 1 + 1 + 1 + 1); (try have hk1y0 := fun o => hc1 (w.heap.size + 1 + 1 + 1 + 1 + 1) o (by omega)); (try have hj1y0 := fun o => hf1 (w.heap.size + 1 + 1 + 1 + 1 + 1) o (by omega)); (try have hq1y0 : w.heap.size + 1 + 1 + 1 + 1 + 1 < w1.heap.size := (by omega)); (try have hr1y0 : (w.heap.size + 1 + 1 + 1 + 1 + 1 = w1.heap.size) = False := eq_false (by omega)); (try have ht1y0 : (w1.heap.size = w.heap.size + 1 + 1 + 1 + 1 + 1) = False := eq_false (by omega)); clear hc1 hf1); (try go_wp2_with fail); refine tr hK (fun hHeld => ?_); clear hK K)
      refine wpAnyH_ready (rs := [6, 10]) (by kernel_rfl) (by simp) ?_
      refine AllReadyH.cons rfl (fun K hK => ?_) (AllReadyH.cons rfl (fun K hK => ?_) AllReadyH.nil)
      · (go_simp; (go_at_call 116; refine (l5Mixed_q _ _ _ _ _ _ _ P Q E false _ (by omega) (by omega) (by omega) (by omega) (by omega) (by omega) (by omega) eM).mono ?_; rintro e w2 ⟨rfl, hb2⟩; obtain ⟨hc2, hf2⟩ := bcell hb2; have hz2 := hb2.size; (try simp only [World.size_drew, World.size_alloc, World.size_setCell] at hc2 hf2 hz2); obtain ⟨hk2x0, hj2x0, hq2x0⟩ := kfa hb2 (w.heap.size); obtain ⟨hk2x1, hj2x1, hq2x1⟩ := kfa hb2 (w.heap.size + 1); obtain ⟨hk2x2, hj2x2, hq2x2⟩ := kfa hb2 (w.heap.size + 1 + 1); obtain ⟨hk2x3, hj2x3, hq2x3⟩ := kfa hb2 (w.heap.size + 1 + 1 + 1); obtain ⟨hk2x4, hj2x4, hq2x4⟩ := kfa hb2 (w.heap.size + 1 + 1 + 1 + 1); (try have hk2y0 := fun o => hc2 (w.heap.size + 1 + 1 + 1 + 1 + 1) o (by omega)); (try have hj2y0 := fun o => hf2 (w.heap.size + 1 + 1 + 1 + 1 + 1) o (by omega)); (try have hq2y0 : w.heap.size + 1 + 1 + 1 + 1 + 1 < w2.heap.size := (by omega)); (try have hr2y0 : (w.heap.size + 1 + 1 + 1 + 1 + 1 = w2.heap.size) = False := eq_false (by omega)); (try have ht2y0 : (w2.heap.size = w.heap.size + 1 + 1 + 1 + 1 + 1) = False := eq_false (by omega)); (try have hk2y1 := fun o => hc2 (w1.heap.size) o (by omega)); (try have hj2y1 := fun o => hf2 (w1.heap.size) o (by omega)); (try have hq2y1 : w1.heap.size < w2.heap.size := (by omega)); (try have hr2y1 : (w1.heap.size = w2.heap.size) = False := eq_false (by omega)); (try have ht2y1 : (w2.heap.size = w1.heap.size) = False := eq_false (by omega)); clear hc2 hf2); (try go_wp2_with fail); refine tr hK (fun hHeld => ?_); clear hK K)
        refine tq 7 hHeld ?_
        refine tq 8 hHeld ?_
        refine tq 9 hHeld ?_
        (refine tc 10 fun K hK => ?_; go_simp; refine tr hK (fun hHeld => ?_); clear hK K)
        (refine tc 11 fun K hK => ?_; go_simp; refine tr hK (fun hHeld => ?_); clear hK K)
        refine tq 12 hHeld ?_
        refine wpAnyH_done (by kernel_rfl) ?_ _
        go_wp2_with fail
        exact bodyPost_ret (v := .tuple #[s3 0 0 0, .bool false]) (by simp [results, Tryz.results106, go_sem, *]) rfl ⟨rfl, bel_a⟩
      · (go_simp; refine tr hK (fun hHeld => ?_); clear hK K)
        (refine tc 6 fun K hK => ?_; go_simp; (go_at_call 116; refine (l5Mixed_q _ _ _ _ _ _ _ P Q E false _ (by omega) (by omega) (by omega) (by omega) (by omega) (by omega) (by omega) eM).mono ?_; rintro e w2 ⟨rfl, hb2⟩; obtain ⟨hc2, hf2⟩ := bcell hb2; have hz2 := hb2.size; (try simp only [World.size_drew, World.size_alloc, World.size_setCell] at hc2 hf2 hz2); obtain ⟨hk2x0, hj2x0, hq2x0⟩ := kfa hb2 (w.heap.size); obtain ⟨hk2x1, hj2x1, hq2x1⟩ := kfa hb2 (w.heap.size + 1); obtain ⟨hk2x2, hj2x2, hq2x2⟩ := kfa hb2 (w.heap.size + 1 + 1); obtain ⟨hk2x3, hj2x3, hq2x3⟩ := kfa hb2 (w.heap.size + 1 + 1 + 1); obtain ⟨hk2x4, hj2x4, hq2x4⟩ := kfa hb2 (w.heap.size + 1 + 1 + 1 + 1); (try have hk2y0 := fun o => hc2 (w.heap.size + 1 + 1 + 1 + 1 + 1) o (by omega)); (try have hj2y0 := fun o => hf2 (w.heap.size + 1 + 1 + 1 + 1 + 1) o (by omega)); (try have hq2y0 : w.heap.size + 1 + 1 + 1 + 1 + 1 < w2.heap.size := (by omega)); (try have hr2y0 : (w.heap.size + 1 + 1 + 1 + 1 + 1 = w2.heap.size) = False := eq_false (by omega)); (try have ht2y0 : (w2.heap.size = w.heap.size + 1 + 1 + 1 + 1 + 1) = False := eq_false (by omega)); (try have hk2y1 := fun o => hc2 (w1.heap.size) o (by omega)); (try have hj2y1 := fun o => hf2 (w1.heap.size) o (by omega)); (try have hq2y1 : w1.heap.size < w2.heap.size := (by omega)); (try have hr2y1 : (w1.heap.size = w2.heap.size) = False := eq_false (by omega)); (try have ht2y1 : (w2.heap.size = w1.heap.size) = False := eq_false (by omega)); clear hc2 hf2); (try go_wp2_with fail); refine tr hK (fun hHeld => ?_); clear hK K)
        refine tq 7 hHeld ?_
        refine tq 8 hHeld ?_
        refine tq 9 hHeld ?_
        (refine tc 11 fun K hK => ?_; go_simp; refine tr hK (fun hHeld => ?_); clear hK K)
        refine tq 12 hHeld ?_
        refine wpAnyH_done (by kernel_rfl) ?_ _
        go_wp2_with fail
        exact bodyPost_ret (v := .tuple #[s3 0 0 0, .bool false]) (by simp [results, Tryz.results106, go_sem, *]) rfl ⟨rfl, bel_a⟩
    · (go_simp; refine tr hK (fun hHeld => ?_); clear hK K)
      (refine tc 2 fun K hK => ?_; go_simp; (go_at_call 115; refine (l3Bounds_b _ _ _ _ _ (by omega) (by omega) (by omega) (by omega) (by omega) (by omega)).mono ?_; rintro e w1 ⟨rfl, hb1⟩; obtain ⟨hc1, hf1⟩ := bcell hb1; have hz1 := hb1.size; (try simp only [World.size_drew, World.size_alloc, World.size_setCell] at hc1 hf1 hz1); obtain ⟨hk1x0, hj1x0, hq1x0⟩ := kfa hb1 (w.heap.size); obtain ⟨hk1x1, hj1x1, hq1x1⟩ := kfa hb1 (w.heap.size + 1); obtain ⟨hk1x2, hj1x2, hq1x2⟩ := kfa hb1 (w.heap.size + 1 + 1); obtain ⟨hk1x3, hj1x3, hq1x3⟩ := kfa hb1 (w.heap.size + 1 + 1 + 1); obtain ⟨hk1x4, hj1x4, hq1x4⟩ := kfa hb1 (w.heap.size + 1 + 1 + 1 + 1); (try have hk1y0 := fun o => hc1 (w.heap.size + 1 + 1 + 1 + 1 + 1) o (by omega)); (try have hj1y0 := fun o => hf1 (w.heap.size + 1 + 1 + 1 + 1 + 1) o (by omega)); (try have hq1y0 : w.heap.size + 1 + 1 + 1 + 1 + 1 < w1.heap.size := (by omega)); (try have hr1y0 : (w.heap.size + 1 + 1 + 1 + 1 + 1 = w1.heap.size) = False := eq_false (by omega)); (try have ht1y0 : (w1.heap.size = w.heap.size + 1 + 1 + 1 + 1 + 1) = False := eq_false (by omega)); clear hc1 hf1); (try go_wp2_with fail); refine tr hK (fun hHeld => ?_); clear hK K)
      (refine tc 6 fun K hK => ?_; go_simp; (go_at_call 116; refine (l5Mixed_q _ _ _ _ _ _ _ P Q E false _ (by omega) (by omega) (by omega) (by omega) (by omega) (by omega) (by omega) eM).mono ?_; rintro e w2 ⟨rfl, hb2⟩; obtain ⟨hc2, hf2⟩ := bcell hb2; have hz2 := hb2.size; (try simp only [World.size_drew, World.size_alloc, World.size_setCell] at hc2 hf2 hz2); obtain ⟨hk2x0, hj2x0, hq2x0⟩ := kfa hb2 (w.heap.size); obtain ⟨hk2x1, hj2x1, hq2x1⟩ := kfa hb2 (w.heap.size + 1); obtain ⟨hk2x2, hj2x2, hq2x2⟩ := kfa hb2 (w.heap.size + 1 + 1); obtain ⟨hk2x3, hj2x3, hq2x3⟩ := kfa hb2 (w.heap.size + 1 + 1 + 1); obtain ⟨hk2x4, hj2x4, hq2x4⟩ := kfa hb2 (w.heap.size + 1 + 1 + 1 + 1); (try have hk2y0 := fun o => hc2 (w.heap.size + 1 + 1 + 1 + 1 + 1) o (by omega)); (try have hj2y0 := fun o => hf2 (w.heap.size + 1 + 1 + 1 + 1 + 1) o (by omega)); (try have hq2y0 : w.heap.size + 1 + 1 + 1 + 1 + 1 < w2.heap.size := (by omega)); (try have hr2y0 : (w.heap.size + 1 + 1 + 1 + 1 + 1 = w2.heap.size) = False := eq_false (by omega)); (try have ht2y0 : (w2.heap.size = w.heap.size + 1 + 1 + 1 + 1 + 1) = False := eq_false (by omega)); (try have hk2y1 := fun o => hc2 (w1.heap.size) o (by omega)); (try have hj2y1 := fun o => hf2 (w1.heap.size) o (by omega)); (try have hq2y1 : w1.heap.size < w2.heap.size := (by omega)); (try have hr2y1 : (w1.heap.size = w2.heap.size) = False := eq_false (by omega)); (try have ht2y1 : (w2.heap.size = w1.heap.size) = False := eq_false (by omega)); clear hc2 hf2); (try go_wp2_with fail); refine tr hK (fun hHeld => ?_); clear hK K)
      refine tq 7 hHeld ?_
      refine tq 8 hHeld ?_
      refine tq 9 hHeld ?_
      (refine tc 11 fun K hK => ?_; go_simp; refine tr hK (fun hHeld => ?_); clear hK K)
      refine tq 12 hHeld ?_
      refine wpAnyH_done (by kernel_rfl) ?_ _
      go_wp2_with fail
      exact bodyPost_ret (v := .tuple #[s3 0 0 0, .bool false]) (by simp [results, Tryz.results106, go_sem, *]) rfl ⟨rfl, bel_a⟩
end Go.Proofs.YtneacpfdmocifaaGreat
namespace Go.Proofs.YtneacpfdmocifaaGreat
open Go.RowKit
set_option linter.unusedVariables false
set_option linter.unusedSimpArgs false

def tcT (k1 g1 h1 x y k2 g2 h2 u v : Int) : (Int × Int × Int) × Bool :=
  if k1 = 1 then (if k2 = 1 then rdT (u - x) (v - y) (g1 + g2) else tnT (mxT (u - g2) (v - h2) (u + g2) (v + h2) x y g1))
  else (if k2 = 1 then mxT (x - g1) (y - h1) (x + g1) (y + h1) u v g2 else bxT (x - g1) (y - h1) (x + g1) (y + h1) (u - g2) (v - h2) (u + g2) (v + h2))
def toT (k1 g1 h1 x y k2 g2 h2 u v : Int) : (Int × Int × Int) × Bool := if (shB k1 g1 h1 && (shB k2 g2 h2 && (inB 2560000 x y && inB 2560000 u v))) = true then tcT k1 g1 h1 x y k2 g2 h2 u v else ((0, 0, 0), false)
theorem shB_kinds {k g h : Int} (e : shB k g h = true) : (k = 1 ∧ h = 0 ∧ 1 ≤ g ∧ g ≤ 25600) ∨ (k = 2 ∧ 1 ≤ g ∧ g ≤ 25600 ∧ 1 ≤ h ∧ h ≤ 25600) := by
  unfold shB rdB bxB at e; simp only [Bool.or_eq_true, decide_eq_true_eq] at e; omega
end Go.Proofs.YtneacpfdmocifaaGreat
namespace Go.Proofs.YtneacpfdmocifaaGreat
open Go.RowKit
set_option linter.unusedVariables false
set_option linter.unusedSimpArgs false
/-- how the bodies of rows i and k touch -/
def tcH (C : Nat → Nat → Int) (i k : Nat) : (Int × Int × Int) × Bool := toT (C 1 i) (C 2 i) (C 3 i) (C 4 i) (C 5 i) (C 1 k) (C 2 k) (C 3 k) (C 4 k) (C 5 k)
def conB (C : Nat → Nat → Int) (i k : Nat) : Bool := decide (i < k) && (!(decide (C 8 i = 0) && decide (C 8 k = 0)) && (tcH C i k).2)
def conOne (C : Nat → Nat → Int) (i k : Nat) : List Int := if conB C i k = true then [(i : Int), (k : Int), (tcH C i k).1.1, (tcH C i k).1.2.1, (tcH C i k).1.2.2] else []
def conIn (C : Nat → Nat → Int) (i : Nat) : Nat → List Int
  | 0 => []
  | k + 1 => conIn C i k ++ conOne C i k
def conOut (C : Nat → Nat → Int) (n : Nat) : Nat → List Int
  | 0 => []
  | i + 1 => conOut C n i ++ conIn C i n
/-- all contacts of n bodies -/
def conL (C : Nat → Nat → Int) (n : Nat) : List Int := conOut C n n
theorem conOne_len (C : Nat → Nat → Int) (i k : Nat) : ∃ m, (conOne C i k).length = m * 5 ∧ m ≤ 1 := by
  unfold conOne
  split
  · exact ⟨1, rfl, Nat.le_refl _⟩
  · exact ⟨0, rfl, by omega⟩
theorem conIn_len (C : Nat → Nat → Int) (i : Nat) : ∀ k, ∃ m, (conIn C i k).length = m * 5 ∧ m ≤ k
  | 0 => ⟨0, rfl, Nat.le_refl _⟩
  | k + 1 => by
    obtain ⟨m, h1, h2⟩ := conIn_len C i k
    obtain ⟨m', h3, h4⟩ := conOne_len C i k
    exact ⟨m + m', by rw [conIn, List.length_append, h1, h3]; omega, by omega⟩
theorem conOut_len (C : Nat → Nat → Int) (n : Nat) : ∀ i, ∃ m, (conOut C n i).length = m * 5 ∧ m ≤ i * n
  | 0 => ⟨0, rfl, by omega⟩
  | i + 1 => by
    obtain ⟨m, h1, h2⟩ := conOut_len C n i
    obtain ⟨m', h3, h4⟩ := conIn_len C i n
    exact ⟨m + m', by rw [conOut, List.length_append, h1, h3]; omega, by rw [Nat.succ_mul]; omega⟩
theorem conB_ge {C : Nat → Nat → Int} {i k : Nat} (h : k ≤ i) : conB C i k = false := by
  unfold conB
  rw [decide_eq_false (by omega)]
  rfl
theorem conOne_no {C : Nat → Nat → Int} {i k : Nat} (h : conB C i k = false) : conOne C i k = [] := by
  unfold conOne
  rw [h]
  rfl
theorem conOne_yes {C : Nat → Nat → Int} {i k : Nat} {X Y D : Int} (h : conB C i k = true) (e : tcH C i k = ((X, Y, D), true)) : conOne C i k = [(i : Int), (k : Int), X, Y, D] := by
  unfold conOne
  rw [if_pos h, e]
theorem conB_yes {C : Nat → Nat → Int} {i k : Nat} {X Y D : Int} (h : i < k) (hf : ¬ (C 8 i = 0 ∧ C 8 k = 0)) (e : tcH C i k = ((X, Y, D), true)) : conB C i k = true := by
  unfold conB
  rw [e, decide_eq_true h]
  by_cases e1 : C 8 i = 0
  · have e2 : ¬ C 8 k = 0 := fun q => hf ⟨e1, q⟩
    simp [e2]
  · simp [e1]
/-- nothing touches one that does not stand behind -/
theorem conIn_ge {C : Nat → Nat → Int} (i : Nat) : ∀ k, k ≤ i + 1 → conIn C i k = []
  | 0, _ => rfl
  | k + 1, h => by rw [conIn, conIn_ge i k (by omega), conOne_no (conB_ge (by omega))]; rfl
/-- a list of things of k numbers, in a variable at lb; nothing else has changed since w2 -/
structure LsAt (w2 W : World) (lb t k : Nat) (a : Option Addr) (m c : Nat) (l : List Int) : Prop where
  fr : Fr (fun b => b = lb) w2 W
  box : W.cell? ⟨lb, 0, none⟩ = some (.slice a m c)
  nf : W.frozen? ⟨lb, 0, none⟩ = false
  len : l.length = m * k
  own : OwnL W w2.heap.size t k (.slice a m c) m (ofL l)
theorem Fr.sm {X : Nat → Prop} {w2 W W' : World} {B : Nat} (h : Fr X w2 W) (hs : Sm B W W') (hB : w2.heap.size ≤ B) : Fr X w2 W' :=
  ⟨hs.below.os.trans h.os, hs.below.tape.trans h.tape, hs.below.output.trans h.output, Nat.le_trans h.size hs.size, fun k hk hn => (hs.below.block k (by omega)).trans (h.block k hk hn), fun k o hk ho => (hs.below.block k (by have := (Array.getElem?_eq_some_iff.1 hk).1; omega)).trans (h.kind k o hk ho)⟩
theorem LsAt.sm {w2 W W' : World} {B lb t k m c : Nat} {a : Option Addr} {l : List Int} (h : LsAt w2 W lb t k a m c l) (hs : Sm B W W') (hB : w2.heap.size ≤ B) : LsAt w2 W' lb t k a m c l :=
  ⟨h.fr.sm hs hB, hs.cell h.box, hs.frozen h.box h.nf, h.len, h.own.sm hs⟩
theorem LsAt.below {w2 W W' : World} {lb t k m c : Nat} {a : Option Addr} {l : List Int} (h : LsAt w2 W lb t k a m c l) (hs : Below W.heap.size W W') : LsAt w2 W' lb t k a m c l := h.sm (Sm.of_below hs (Nat.le_refl _)) h.fr.size
theorem LsAt.start {w2 : World} {lb t k : Nat} (h : w2.cell? ⟨lb, 0, none⟩ = some (.slice none 0 0)) (hf : w2.frozen? ⟨lb, 0, none⟩ = false) : LsAt w2 w2 lb t k none 0 0 [] :=
  ⟨Fr.refl _ _, h, hf, by simp, OwnL.nil _ _ _ _ _⟩
/-- the list, and what lies below the variable's world -/
theorem LsAt.keeps {w2 W W1 : World} {lb t k m c m' c' : Nat} {a a' : Option Addr} {l : List Int} (h : LsAt w2 W lb t k a m c l) (hlb : lb < w2.heap.size) (hg : W.grownBy W1 (Value.slice a m c).ownBlock) :
    Fr (fun b => b = lb ∨ (Value.slice a m c).ownBlock = some b) W (W1.setCell ⟨lb, 0, none⟩ (.slice a' m' c')) :=
  (Fr.grown hg (fun b hb => .inr hb) h.own.isCells).trans (Fr.setCell (.inl rfl) _)
theorem LsAt.push {w2 W W1 : World} {lb t k m c : Nat} {a a' : Option Addr} {c' : Nat} {l x : List Int} (h : LsAt w2 W lb t k a m c l) (hlb : lb < w2.heap.size) (hx : x.length = k) (hg : W.grownBy W1 (Value.slice a m c).ownBlock)
    (ho : OwnL W1 w2.heap.size t k (.slice a' (m + 1) c') (m + 1) (cat (m * k) (ofL l) (ofL x))) : LsAt w2 (W1.setCell ⟨lb, 0, none⟩ (.slice a' (m + 1) c')) lb t k a' (m + 1) c' (l ++ x) := by
  have hne : ∀ b, (Value.slice a m c).ownBlock = some b → b ≠ lb := fun b hb => by have := (h.own.lt b hb).1; omega
  have hl : lb < W.heap.size := Nat.lt_of_lt_of_le hlb h.fr.size
  have hb1 : W1.heap[lb]? = W.heap[lb]? := hg.block lb hl (fun e => hne lb e.symm rfl)
  refine ⟨(h.fr.trans' (Fr.grown (X := fun b => (Value.slice a m c).ownBlock = some b) hg (fun b hb => hb) h.own.isCells) (fun i hi e => by have := (h.own.lt i e).1; omega)).trans (Fr.setCell (X := fun b => b = lb) rfl _), cset_same ((World.cell?_of_block (a := ⟨lb, 0, none⟩) hb1).trans h.box), ?_, by rw [List.length_append, h.len, hx, Nat.succ_mul], ?_⟩
  · rw [World.frozen?_setCell]; exact (World.frozen?_of_block (a := ⟨lb, 0, none⟩) hb1).trans h.nf
  · rw [← cat_ofL, h.len]
    refine OwnL.frame (X := fun b => b = lb) ho (Fr.setCell (X := fun b => b = lb) rfl _) (fun b hb e => ?_)
    have := (ho.lt b hb).1
    omega
theorem _root_.Go.KeepsFrom.sm {B B' : Nat} {W X X' : World} (h : KeepsFrom B W X) (hs : Sm B' X X') (hB : W.heap.size ≤ B') : KeepsFrom B W X' :=
  ⟨Nat.le_trans h.size hs.size, fun k o hk h0 ho => (hs.below.block k (by have := (Array.getElem?_eq_some_iff.1 h0).1; omega)).trans (h.same k o hk h0 ho)⟩
end Go.Proofs.YtneacpfdmocifaaGreat
namespace Go.Proofs.YtneacpfdmocifaaGreat
open Go.RowKit
set_option linter.unusedVariables false
section
variable {P : Program} {md : Region.Mode} {ops : Array Oper} {Q : Exit → Act → World → Prop} {S : World → Prop}
theorem td (i j : Nat) {o1 o2 o3 o4 o5 o6 p1 p2 p3 p4 p5 p6} {v u : Value} {fuel : Nat} {listed : Array Bool} {a a' : Act} {w w1 : World} (hS : S w)
    (h : S w1 → wpAnyH P md ops Q S fuel ((listed.setIfInBounds i true).setIfInBounds j true) a' w1)
    (hr : (Region.ready md ops listed = [i, j] ∧ Region.ready md ops (listed.setIfInBounds i true) = [j] ∧ Region.ready md ops (listed.setIfInBounds j true) = [i]) := by exact ⟨by kernel_rfl, by kernel_rfl, by kernel_rfl⟩)
    (hi : ops[i]? = some (Oper.mk o1 o2 o3 o4 o5 o6) := by rfl) (hj : ops[j]? = some (Oper.mk p1 p2 p3 p4 p5 p6) := by rfl)
    (hc : (Region.noSelect ops && ((Oper.mk o1 o2 o3 o4 o5 o6).apart ops (Oper.mk p1 p2 p3 p4 p5 p6) && (i != j))) = true := by kernel_rfl)
    (wi : Region.wanted (Oper.mk o1 o2 o3 o4 o5 o6) (yielded ops a.tmps) = true := by rfl) (wj : Region.wanted (Oper.mk p1 p2 p3 p4 p5 p6) (yielded ops a.tmps) = true := by rfl)
    (vi : (execOp a.eval (Oper.mk o1 o2 o3 o4 o5 o6)).run P w = .ok (.value v) w := by (go_simp; (try with_reducible rfl)))
    (vj : (execOp a.eval (Oper.mk p1 p2 p3 p4 p5 p6)).run P w = .ok (.value u) w1 := by (go_simp; (first | done | exact ⟨rfl, rfl⟩ | with_reducible rfl)))
    (vi1 : (execOp a.eval (Oper.mk o1 o2 o3 o4 o5 o6)).run P w1 = .ok (.value v) w1 := by (go_simp; (try with_reducible rfl)))
    (hS1 : S w1 := by ((try dsimp only); (first | (go_simp; done) | (go_keep; done))))
    (he : (a.put (Oper.mk o1 o2 o3 o4 o5 o6).dst v).put (Oper.mk p1 p2 p3 p4 p5 p6).dst u = a' := by ((try simp only [Act.put, List.setIfInBounds_toArray, List.set_cons_zero, List.set_cons_succ]); (try with_reducible rfl))) :
    wpAnyH P md ops Q S (fuel + 2) listed a w := by
  subst he
  simp only [Bool.and_eq_true] at hc
  obtain ⟨h1, h2, h3⟩ := Oper.apart_spec hc.2.1
  have hne : i ≠ j := by simpa using hc.2.2
  have hsel := Region.noSelect_spec hc.1
  obtain ⟨r0, r1, r2⟩ := hr
  refine ⟨fun e => (by rw [r0] at e; cases e), fun x hx => ?_⟩
  rw [r0] at hx
  rcases List.mem_cons.1 hx with rfl | hx
  · unfold wpOp
    rw [hi]
    simp only [wi, if_true]
    refine .inl ?_
    simp only [Oper.wp, vi, Oper.upon]
    refine ⟨hS, ⟨fun e => (by rw [r1] at e; cases e), fun y hy => ?_⟩⟩
    rw [r1] at hy
    obtain rfl := List.mem_singleton.1 hy
    unfold wpOp
    rw [hj]
    simp only [wanted_put _ a _ v h1, wj, if_true]
    refine .inl ?_
    rw [Oper.wp, execOp_put _ (fun cs b => hsel _ _ cs b hj) a _ v h1, vj]
    exact ⟨hS1, h hS1⟩
  · obtain rfl := List.mem_singleton.1 hx
    unfold wpOp
    rw [hj]
    simp only [wj, if_true]
    refine .inl ?_
    simp only [Oper.wp, vj, Oper.upon]
    refine ⟨hS1, ⟨fun e => (by rw [r2] at e; cases e), fun y hy => ?_⟩⟩
    rw [r2] at hy
    obtain rfl := List.mem_singleton.1 hy
    unfold wpOp
    rw [hi]
    simp only [wanted_put _ a _ u h3, wi, if_true]
    refine .inl ?_
    rw [Oper.wp, execOp_put _ (fun cs b => hsel _ _ cs b hi) a _ u h3, vi1]
    refine ⟨hS1, ?_⟩
    have := h hS1
    rw [Array.setIfInBounds_comm _ _ hne, Act.put_comm a v u h2] at this
    exact this
end
end Go.Proofs.YtneacpfdmocifaaGreat
namespace Go.Proofs.YtneacpfdmocifaaGreat
open Go.RowKit
set_option linter.unusedVariables false
set_option linter.unusedSimpArgs false

abbrev bodyV (V : Nat → Int) : Value := .agg #[.int .i64 (V 0), .int .i64 (V 1), .int .i64 (V 2), .int .i64 (V 3), .int .i64 (V 4), .int .i64 (V 5), .int .i64 (V 6), .int .i64 (V 7), .int .i64 (V 8), .int .i64 (V 9), .int .i64 (V 10), .int .i64 (V 11)]
/-- so many columns have one number more -/
structure AddN (w wx : World) (cb n : Nat) (C : Nat → Nat → Int) (V : Nat → Int) (S : Nat → Value) (k : Nat) (S' : Nat → Value) : Prop where
  body : ∀ j, j < 12 → wx.cell? ⟨w.heap.size, j, none⟩ = some (.int .i64 (V j))
  hd : ∀ i, i < 12 → wx.cell? ⟨cb, i, none⟩ = some (S' i)
  nf : ∀ i, i < 12 → wx.frozen? ⟨cb, i, none⟩ = false
  did : ∀ i, i < k → OwnL wx cb 69 1 (S' i) (n + 1) (snoc n (C i) (V i))
  todo : ∀ i, k ≤ i → i < 12 → S' i = S i ∧ OwnL wx cb 69 1 (S i) n (C i)
  dis : ∀ i j, i < 12 → j < 12 → i ≠ j → ∀ b, (S' i).ownBlock = some b → (S' j).ownBlock ≠ some b
  ncb : ∀ i, i < 12 → ∀ b, (S' i).ownBlock = some b → b ≠ cb ∧ b ≠ w.heap.size
  fr : Fr (fun k => k = cb ∨ Xc S k) w wx
  big : w.heap.size < wx.heap.size
theorem OwnL.alloc' {w : World} {base t k n : Nat} {v : Value} {U : Nat → Int} (h : OwnL w base t k v n U) (o : Obj) : OwnL (w.alloc o).drew base t k v n U := World.ownsRow.drew (World.ownsRow.alloc h o)
theorem AddN.own {w wx : World} {cb n k : Nat} {C : Nat → Nat → Int} {V : Nat → Int} {S S' : Nat → Value} (h : AddN w wx cb n C V S k S') {i : Nat} (hi : i < 12) : ∃ m U, OwnL wx cb 69 1 (S' i) m U := by
  by_cases e : i < k
  · exact ⟨_, _, h.did i e⟩
  · obtain ⟨e1, e2⟩ := h.todo i (by omega) hi
    rw [e1]
    exact ⟨_, _, e2⟩
theorem AddN.step {w wx w1 : World} {cb n k g cap : Nat} {C : Nat → Nat → Int} {V : Nat → Int} {S S' : Nat → Value} {o : Obj} (h : AddN w wx cb n C V S k S') (hk : k < 12) (hcb : cb < w.heap.size)
    (ho : OwnL w1 cb 69 1 (.slice (some ⟨g, 0, none⟩) (n + 1) cap) (n + 1) (snoc n (C k) (V k))) (hg : (wx.alloc o).drew.grownBy w1 (S k).ownBlock) (hor : (S k).ownBlock = some g ∨ g = wx.heap.size + 1) (hlt : g < w1.heap.size) :
    w1.cell? ⟨w.heap.size, k, none⟩ = some (.int .i64 (V k)) ∧ w1.cell? ⟨cb, k, none⟩ = some (S k) ∧ w1.frozen? ⟨cb, k, none⟩ = false ∧
    AddN w (w1.setCell ⟨cb, k, none⟩ (.slice (some ⟨g, 0, none⟩) (n + 1) cap)) cb n C V S (k + 1) (fun i => if i = k then .slice (some ⟨g, 0, none⟩) (n + 1) cap else S' i) := by
  obtain ⟨es, ok⟩ := h.todo k (Nat.le_refl _) hk
  have big := h.big
  have sz : (wx.alloc o).drew.heap.size = wx.heap.size + 1 := by simp
  have hne : ∀ b, (S k).ownBlock = some b → b ≠ cb ∧ b ≠ w.heap.size := fun b hb => h.ncb k hk b (by rw [es]; exact hb)
  have hX : ∀ b, (S k).ownBlock = some b → Xc S b := fun b hb => ⟨k, hk, hb⟩
  have hblk : ∀ b, b < wx.heap.size → (S k).ownBlock ≠ some b → w1.heap[b]? = wx.heap[b]? := fun b hb hn => (hg.block b (by omega) (Ne.symm hn)).trans (Below.heap_alloc _ _ _ hb)
  have F0 : Fr (fun x => x = cb ∨ Xc S x) wx (wx.alloc o).drew := Fr.of_below (Below.drew ((Below.refl _ _).alloc (Nat.le_refl _) _))
  have F1 : Fr (fun x => x = cb ∨ Xc S x) (wx.alloc o).drew w1 := Fr.grown hg (fun b hb => .inr (hX b hb)) (OwnL.isCells (ok.alloc' o))
  have F2 : Fr (fun x => x = cb ∨ Xc S x) w1 (w1.setCell ⟨cb, k, none⟩ (.slice (some ⟨g, 0, none⟩) (n + 1) cap)) := Fr.setCell (.inl rfl) _
  have cbl : cb < wx.heap.size := by omega
  have bcb : w1.heap[cb]? = wx.heap[cb]? := hblk cb cbl (fun e => (hne cb e).1 rfl)
  have bbd : w1.heap[w.heap.size]? = wx.heap[w.heap.size]? := hblk _ big (fun e => (hne _ e).2 rfl)
  have gcb : g ≠ cb ∧ g ≠ w.heap.size := by
    rcases hor with q | q
    · exact hne g q
    · omega
  have gS : ∀ i, i < 12 → i ≠ k → (S' i).ownBlock ≠ some g := fun i hi hik e => by
    rcases hor with q | q
    · exact h.dis i k hi hk hik g e (by rw [es]; exact q)
    · obtain ⟨m, U, oo⟩ := h.own hi
      have := (oo.lt g e).2
      omega
  have keep : ∀ i, i < 12 → i ≠ k → ∀ {m U}, OwnL wx cb 69 1 (S' i) m U → OwnL (w1.setCell ⟨cb, k, none⟩ (.slice (some ⟨g, 0, none⟩) (n + 1) cap)) cb 69 1 (S' i) m U := fun i hi hik m U oo => by
    refine OwnL.frame (X := fun x => x = cb ∨ (S k).ownBlock = some x) (oo.alloc' o) ((Fr.grown hg (fun b hb => .inr hb) (OwnL.isCells (ok.alloc' o))).trans (Fr.setCell (.inl rfl) _)) (fun b hb q => ?_)
    rcases q with q | q
    · exact (h.ncb i hi b hb).1 q
    · exact h.dis i k hi hk hik b hb (by rw [es]; exact q)
  refine ⟨(World.cell?_of_block bbd).trans (h.body k hk), (World.cell?_of_block bcb).trans ((h.hd k hk).trans (by rw [es])), (World.frozen?_of_block bcb).trans (h.nf k hk), ?_⟩
  have hk1 : w1.cell? ⟨cb, k, none⟩ = some (S k) := (World.cell?_of_block bcb).trans ((h.hd k hk).trans (by rw [es]))
  refine ⟨fun j hj => ?_, fun i hi => ?_, fun i hi => ?_, fun i hi => ?_, fun i hi hi' => ?_, fun i j hi hj hij b => ?_, fun i hi b => ?_, ((h.fr.trans F0).trans F1).trans F2, ?_⟩
  · rw [cset_far (by simp; omega)]
    exact (World.cell?_of_block (a := ⟨w.heap.size, j, none⟩) bbd).trans (h.body j hj)
  · by_cases e : i = k
    · subst e
      simp only [if_pos]
      exact cset_same hk1
    · simp only [if_neg e]
      rw [cset_other (by intro q; injection q with _ q; exact e q.symm)]
      exact (World.cell?_of_block (a := ⟨cb, i, none⟩) bcb).trans (h.hd i hi)
  · rw [World.frozen?_setCell]
    exact (World.frozen?_of_block (a := ⟨cb, i, none⟩) bcb).trans (h.nf i hi)
  · by_cases e : i = k
    · subst e
      simp only [if_pos]
      refine OwnL.frame (X := fun x => x = cb) ho (Fr.setCell (X := fun x => x = cb) rfl _) (fun b hb q => ?_)
      simp only [Value.ownBlock, Option.some.injEq] at hb
      omega
    · simp only [if_neg e]
      exact keep i (by omega) e (h.did i (by omega))
  · have e : i ≠ k := by omega
    obtain ⟨q1, q2⟩ := h.todo i (by omega) hi'
    simp only [if_neg e]
    refine ⟨q1, ?_⟩
    have := keep i hi' e (m := n) (U := C i) (by rw [q1]; exact q2)
    rw [q1] at this
    exact this
  · by_cases e : i = k
    · subst e
      have e2 : ¬ j = i := Ne.symm hij
      simp only [if_pos, if_neg e2]
      intro hb
      simp only [Value.ownBlock, Option.some.injEq] at hb
      subst hb
      exact gS j hj e2
    · by_cases e2 : j = k
      · subst e2
        simp only [if_pos, if_neg e]
        intro hb q
        simp only [Value.ownBlock, Option.some.injEq] at q
        subst q
        exact gS i hi e hb
      · simp only [if_neg e, if_neg e2]
        exact h.dis i j hi hj hij b
  · by_cases e : i = k
    · subst e
      simp only [if_pos]
      intro hb
      simp only [Value.ownBlock, Option.some.injEq] at hb
      subst hb
      exact gcb
    · simp only [if_neg e]
      exact h.ncb i hi b
  · have := F1.size
    simp
    omega
theorem AddN.start {w wx : World} {cb n : Nat} {C : Nat → Nat → Int} {V : Nat → Int} {S : Nat → Value} (h : Cs w cb n C S) (hb : Below w.heap.size w wx) (hbody : ∀ j, j < 12 → wx.cell? ⟨w.heap.size, j, none⟩ = some (.int .i64 (V j))) (big : w.heap.size < wx.heap.size) : AddN w wx cb n C V S 0 S := by
  have h' := h.below hb
  exact ⟨hbody, h'.hd, h'.nf, fun i hi => absurd hi (by omega), fun i _ hi => ⟨rfl, h'.own i hi⟩, h.dis, fun i hi b hb => ⟨h.ncb i hi b hb, by have := h.xlt (b := b) ⟨i, hi, hb⟩; omega⟩, Fr.of_below hb, big⟩
/-- a body more -/
def snocC (n : Nat) (C : Nat → Nat → Int) (V : Nat → Int) : Nat → Nat → Int := fun i => snoc n (C i) (V i)
theorem AddN.cs {w wx : World} {cb n : Nat} {C : Nat → Nat → Int} {V : Nat → Int} {S S' : Nat → Value} (h : AddN w wx cb n C V S 12 S') : Cs wx cb (n + 1) (snocC n C V) S' :=
  ⟨h.hd, h.nf, h.did, fun i hi b hb => (h.ncb i hi b hb).1, h.dis⟩
set_option maxRecDepth 20000 in
set_option maxHeartbeats 8000000 in
theorem add_any (cb n : Nat) (C : Nat → Nat → Int) (V : Nat → Int) (S : Nat → Value) (w : World) (h : Cs w cb n C S) (hn : n ≤ 1048576) :
    Calls Tryz.prog 78 #[.pointer (some ⟨cb, 0, none⟩), bodyV V] w fun e w' => e = .returned (.tuple #[]) ∧ ∃ S', Cs w' cb (n + 1) (snocC n C V) S' ∧ Fr (fun k => k = cb ∨ Xc S k) w w' := by
  have hset := cset_map
  have hcb := h.lt
  go_enter Tryz.func78, Tryz.ntmps78
  go_upto_region 1 with fail
  have h0 : AddN w (w.alloc (.cells #[.int .i64 (V 0), .int .i64 (V 1), .int .i64 (V 2), .int .i64 (V 3), .int .i64 (V 4), .int .i64 (V 5), .int .i64 (V 6), .int .i64 (V 7), .int .i64 (V 8), .int .i64 (V 9), .int .i64 (V 10), .int .i64 (V 11)] 38)) cb n C V S 0 S := AddN.start h (bel_a) (by intro j hj; rcases (show j = 0 ∨ j = 1 ∨ j = 2 ∨ j = 3 ∨ j = 4 ∨ j = 5 ∨ j = 6 ∨ j = 7 ∨ j = 8 ∨ j = 9 ∨ j = 10 ∨ j = 11 by omega) with rfl | rfl | rfl | rfl | rfl | rfl | rfl | rfl | rfl | rfl | rfl | rfl <;> go_simp) (by simp)
  clear h
  generalize (w.alloc (.cells #[.int .i64 (V 0), .int .i64 (V 1), .int .i64 (V 2), .int .i64 (V 3), .int .i64 (V 4), .int .i64 (V 5), .int .i64 (V 6), .int .i64 (V 7), .int .i64 (V 8), .int .i64 (V 9), .int .i64 (V 10), .int .i64 (V 11)] 38)) = wx0 at h0 ⊢
  have b0 := h0.body 0 (by omega)
  obtain ⟨e0, o0⟩ := h0.todo 0 (by omega) (by omega)
  have c0 := h0.hd 0 (by omega)
  rw [e0] at c0
  clear e0
  have f0 := h0.nf 0 (by omega)
  have z0 := h0.big
  have l0 : cb < wx0.heap.size := by omega
  go_cut [] (fun wc => ∃ S', AddN w wc cb n C V S 1 S')
  case first =>
    refine wp_region_held_drew (S := fun w' => w'.cell? ⟨w.heap.size, 0, none⟩ = some (.int .i64 (V 0))) (by kernel_rfl) ?_ (fun hHeld => ?_)
    · (try dsimp only)
      (first | (go_simp; done) | (go_keep; done))
    refine tq 0 hHeld ?_
    refine tq 1 hHeld ?_
    refine tq 2 hHeld ?_
    refine tq 3 hHeld ?_
    refine tq 5 hHeld ?_
    refine tq 6 hHeld ?_
    refine td 4 7 hHeld (fun hHeld => ?_)
    refine tc 8 fun K hK => ?_
    refine step_app1 (by rfl) _ _ _ (by rfl) cb 69 (.int .i64 0) Tryz.underlying92 (by kernel_rfl) (by rfl) (S 0) n (C 0) (by rfl) (o0.alloc' _) wx0.heap.size _ (V 0) (by rfl) (by go_simp) hn (by simp; omega) (wx0.heap.size + 1) (by simp) ?_
    intro g cap w1 ho hg hor hlt
    obtain ⟨qb, qc, qf, hst⟩ := AddN.step h0 (by omega) hcb ho hg hor hlt
    refine tr hK (fun hHeld => ?_) (by (try dsimp only); exact qb)
    clear hK K
    refine tq 9 hHeld ?_
    refine tq 10 hHeld ?_
    (refine tc 11 fun K hK => ?_; go_simp; refine tr hK (fun hHeld => ?_) (by (try dsimp only); exact (cset_far (by simp; omega)).trans qb); clear hK K)
    refine wpAnyH_done (by kernel_rfl) ?_ _
    go_wp2_with fail
    go_meet
    exact ⟨_, hst⟩
  case rest =>
  obtain ⟨S1, h1⟩ := hcut
  clear b0 o0 c0 f0 z0 l0 h0
  go_upto_region 2 with fail
  have b0 := h1.body 1 (by omega)
  obtain ⟨e0, o0⟩ := h1.todo 1 (by omega) (by omega)
  have c0 := h1.hd 1 (by omega)
  rw [e0] at c0
  clear e0
  have f0 := h1.nf 1 (by omega)
  have z0 := h1.big
  have l0 : cb < wc.heap.size := by omega
  go_cut [] (fun wc => ∃ S', AddN w wc cb n C V S 2 S')
  case first =>
    refine wp_region_held_drew (S := fun w' => w'.cell? ⟨w.heap.size, 1, none⟩ = some (.int .i64 (V 1))) (by kernel_rfl) ?_ (fun hHeld => ?_)
    · (try dsimp only)
      (first | (go_simp; done) | (go_keep; done))
    refine tq 0 hHeld ?_
    refine tq 1 hHeld ?_
    refine tq 2 hHeld ?_
    refine tq 3 hHeld ?_
    refine tq 5 hHeld ?_
    refine tq 6 hHeld ?_
    refine tq 7 hHeld ?_
    refine td 4 8 hHeld (fun hHeld => ?_)
    refine tc 9 fun K hK => ?_
    refine step_app1 (by rfl) _ _ _ (by rfl) cb 69 (.int .i64 0) Tryz.underlying92 (by kernel_rfl) (by rfl) (S 1) n (C 1) (by rfl) (o0.alloc' _) wc.heap.size _ (V 1) (by rfl) (by go_simp) hn (by simp; omega) (wc.heap.size + 1) (by simp) ?_
    intro g cap w1 ho hg hor hlt
    obtain ⟨qb, qc, qf, hst⟩ := AddN.step h1 (by omega) hcb ho hg hor hlt
    refine tr hK (fun hHeld => ?_) (by (try dsimp only); exact qb)
    clear hK K
    refine tq 10 hHeld ?_
    refine tq 11 hHeld ?_
    (refine tc 12 fun K hK => ?_; go_simp; refine tr hK (fun hHeld => ?_) (by (try dsimp only); exact (cset_far (by simp; omega)).trans qb); clear hK K)
    refine wpAnyH_done (by kernel_rfl) ?_ _
    go_wp2_with fail
    go_meet
    exact ⟨_, hst⟩
  case rest =>
  obtain ⟨S2, h2⟩ := hcut
  clear b0 o0 c0 f0 z0 l0 h1
  go_upto_region 3 with fail
  have b0 := h2.body 2 (by omega)
  obtain ⟨e0, o0⟩ := h2.todo 2 (by omega) (by omega)
  have c0 := h2.hd 2 (by omega)
  rw [e0] at c0
  clear e0
  have f0 := h2.nf 2 (by omega)
  have z0 := h2.big
  have l0 : cb < wc.heap.size := by omega
  go_cut [] (fun wc => ∃ S', AddN w wc cb n C V S 3 S')
  case first =>
    refine wp_region_held_drew (S := fun w' => w'.cell? ⟨w.heap.size, 2, none⟩ = some (.int .i64 (V 2))) (by kernel_rfl) ?_ (fun hHeld => ?_)
    · (try dsimp only)
      (first | (go_simp; done) | (go_keep; done))
    refine tq 0 hHeld ?_
    refine tq 1 hHeld ?_
    refine tq 2 hHeld ?_
    refine tq 3 hHeld ?_
    refine tq 5 hHeld ?_
    refine tq 6 hHeld ?_
    refine tq 7 hHeld ?_
    refine td 4 8 hHeld (fun hHeld => ?_)
    refine tc 9 fun K hK => ?_
    refine step_app1 (by rfl) _ _ _ (by rfl) cb 69 (.int .i64 0) Tryz.underlying92 (by kernel_rfl) (by rfl) (S 2) n (C 2) (by rfl) (o0.alloc' _) wc.heap.size _ (V 2) (by rfl) (by go_simp) hn (by simp; omega) (wc.heap.size + 1) (by simp) ?_
    intro g cap w1 ho hg hor hlt
    obtain ⟨qb, qc, qf, hst⟩ := AddN.step h2 (by omega) hcb ho hg hor hlt
    refine tr hK (fun hHeld => ?_) (by (try dsimp only); exact qb)
    clear hK K
    refine tq 10 hHeld ?_
    refine tq 11 hHeld ?_
    (refine tc 12 fun K hK => ?_; go_simp; refine tr hK (fun hHeld => ?_) (by (try dsimp only); exact (cset_far (by simp; omega)).trans qb); clear hK K)
    refine wpAnyH_done (by kernel_rfl) ?_ _
    go_wp2_with fail
    go_meet
    exact ⟨_, hst⟩
  case rest =>
  obtain ⟨S3, h3⟩ := hcut
  clear b0 o0 c0 f0 z0 l0 h2
  go_upto_region 4 with fail
  have b0 := h3.body 3 (by omega)
  obtain ⟨e0, o0⟩ := h3.todo 3 (by omega) (by omega)
  have c0 := h3.hd 3 (by omega)
  rw [e0] at c0
  clear e0
  have f0 := h3.nf 3 (by omega)
  have z0 := h3.big
  have l0 : cb < wc.heap.size := by omega
  go_cut [] (fun wc => ∃ S', AddN w wc cb n C V S 4 S')
  case first =>
    refine wp_region_held_drew (S := fun w' => w'.cell? ⟨w.heap.size, 3, none⟩ = some (.int .i64 (V 3))) (by kernel_rfl) ?_ (fun hHeld => ?_)
    · (try dsimp only)
      (first | (go_simp; done) | (go_keep; done))
    refine tq 0 hHeld ?_
    refine tq 1 hHeld ?_
    refine tq 2 hHeld ?_
    refine tq 3 hHeld ?_
    refine tq 5 hHeld ?_
    refine tq 6 hHeld ?_
    refine tq 7 hHeld ?_
    refine td 4 8 hHeld (fun hHeld => ?_)
    refine tc 9 fun K hK => ?_
    refine step_app1 (by rfl) _ _ _ (by rfl) cb 69 (.int .i64 0) Tryz.underlying92 (by kernel_rfl) (by rfl) (S 3) n (C 3) (by rfl) (o0.alloc' _) wc.heap.size _ (V 3) (by rfl) (by go_simp) hn (by simp; omega) (wc.heap.size + 1) (by simp) ?_
    intro g cap w1 ho hg hor hlt
    obtain ⟨qb, qc, qf, hst⟩ := AddN.step h3 (by omega) hcb ho hg hor hlt
    refine tr hK (fun hHeld => ?_) (by (try dsimp only); exact qb)
    clear hK K
    refine tq 10 hHeld ?_
    refine tq 11 hHeld ?_
    (refine tc 12 fun K hK => ?_; go_simp; refine tr hK (fun hHeld => ?_) (by (try dsimp only); exact (cset_far (by simp; omega)).trans qb); clear hK K)
    refine wpAnyH_done (by kernel_rfl) ?_ _
    go_wp2_with fail
    go_meet
    exact ⟨_, hst⟩
  case rest =>
  obtain ⟨S4, h4⟩ := hcut
  clear b0 o0 c0 f0 z0 l0 h3
  go_upto_region 5 with fail
  have b0 := h4.body 4 (by omega)
  obtain ⟨e0, o0⟩ := h4.todo 4 (by omega) (by omega)
  have c0 := h4.hd 4 (by omega)
  rw [e0] at c0
  clear e0
  have f0 := h4.nf 4 (by omega)
  have z0 := h4.big
  have l0 : cb < wc.heap.size := by omega
  go_cut [] (fun wc => ∃ S', AddN w wc cb n C V S 5 S')
  case first =>
    refine wp_region_held_drew (S := fun w' => w'.cell? ⟨w.heap.size, 4, none⟩ = some (.int .i64 (V 4))) (by kernel_rfl) ?_ (fun hHeld => ?_)
    · (try dsimp only)
      (first | (go_simp; done) | (go_keep; done))
    refine tq 0 hHeld ?_
    refine tq 1 hHeld ?_
    refine tq 2 hHeld ?_
    refine tq 3 hHeld ?_
    refine tq 5 hHeld ?_
    refine tq 6 hHeld ?_
    refine tq 7 hHeld ?_
    refine td 4 8 hHeld (fun hHeld => ?_)
    refine tc 9 fun K hK => ?_
    refine step_app1 (by rfl) _ _ _ (by rfl) cb 69 (.int .i64 0) Tryz.underlying92 (by kernel_rfl) (by rfl) (S 4) n (C 4) (by rfl) (o0.alloc' _) wc.heap.size _ (V 4) (by rfl) (by go_simp) hn (by simp; omega) (wc.heap.size + 1) (by simp) ?_
    intro g cap w1 ho hg hor hlt
    obtain ⟨qb, qc, qf, hst⟩ := AddN.step h4 (by omega) hcb ho hg hor hlt
    refine tr hK (fun hHeld => ?_) (by (try dsimp only); exact qb)
    clear hK K
    refine tq 10 hHeld ?_
    refine tq 11 hHeld ?_
    (refine tc 12 fun K hK => ?_; go_simp; refine tr hK (fun hHeld => ?_) (by (try dsimp only); exact (cset_far (by simp; omega)).trans qb); clear hK K)
    refine wpAnyH_done (by kernel_rfl) ?_ _
    go_wp2_with fail
    go_meet
    exact ⟨_, hst⟩
  case rest =>
  obtain ⟨S5, h5⟩ := hcut
  clear b0 o0 c0 f0 z0 l0 h4
  go_upto_region 6 with fail
  have b0 := h5.body 5 (by omega)
  obtain ⟨e0, o0⟩ := h5.todo 5 (by omega) (by omega)
  have c0 := h5.hd 5 (by omega)
  rw [e0] at c0
  clear e0
  have f0 := h5.nf 5 (by omega)
  have z0 := h5.big
  have l0 : cb < wc.heap.size := by omega
  go_cut [] (fun wc => ∃ S', AddN w wc cb n C V S 6 S')
  case first =>
    refine wp_region_held_drew (S := fun w' => w'.cell? ⟨w.heap.size, 5, none⟩ = some (.int .i64 (V 5))) (by kernel_rfl) ?_ (fun hHeld => ?_)
    · (try dsimp only)
      (first | (go_simp; done) | (go_keep; done))
    refine tq 0 hHeld ?_
    refine tq 1 hHeld ?_
    refine tq 2 hHeld ?_
    refine tq 3 hHeld ?_
    refine tq 5 hHeld ?_
    refine tq 6 hHeld ?_
    refine tq 7 hHeld ?_
    refine td 4 8 hHeld (fun hHeld => ?_)
    refine tc 9 fun K hK => ?_
    refine step_app1 (by rfl) _ _ _ (by rfl) cb 69 (.int .i64 0) Tryz.underlying92 (by kernel_rfl) (by rfl) (S 5) n (C 5) (by rfl) (o0.alloc' _) wc.heap.size _ (V 5) (by rfl) (by go_simp) hn (by simp; omega) (wc.heap.size + 1) (by simp) ?_
    intro g cap w1 ho hg hor hlt
    obtain ⟨qb, qc, qf, hst⟩ := AddN.step h5 (by omega) hcb ho hg hor hlt
    refine tr hK (fun hHeld => ?_) (by (try dsimp only); exact qb)
    clear hK K
    refine tq 10 hHeld ?_
    refine tq 11 hHeld ?_
    (refine tc 12 fun K hK => ?_; go_simp; refine tr hK (fun hHeld => ?_) (by (try dsimp only); exact (cset_far (by simp; omega)).trans qb); clear hK K)
    refine wpAnyH_done (by kernel_rfl) ?_ _
    go_wp2_with fail
    go_meet
    exact ⟨_, hst⟩
  case rest =>
  obtain ⟨S6, h6⟩ := hcut
  clear b0 o0 c0 f0 z0 l0 h5
  go_upto_region 7 with fail
  have b0 := h6.body 6 (by omega)
  obtain ⟨e0, o0⟩ := h6.todo 6 (by omega) (by omega)
  have c0 := h6.hd 6 (by omega)
  rw [e0] at c0
  clear e0
  have f0 := h6.nf 6 (by omega)
  have z0 := h6.big
  have l0 : cb < wc.heap.size := by omega
  go_cut [] (fun wc => ∃ S', AddN w wc cb n C V S 7 S')
  case first =>
    refine wp_region_held_drew (S := fun w' => w'.cell? ⟨w.heap.size, 6, none⟩ = some (.int .i64 (V 6))) (by kernel_rfl) ?_ (fun hHeld => ?_)
    · (try dsimp only)
      (first | (go_simp; done) | (go_keep; done))
    refine tq 0 hHeld ?_
    refine tq 1 hHeld ?_
    refine tq 2 hHeld ?_
    refine tq 3 hHeld ?_
    refine tq 5 hHeld ?_
    refine tq 6 hHeld ?_
    refine tq 7 hHeld ?_
    refine td 4 8 hHeld (fun hHeld => ?_)
    refine tc 9 fun K hK => ?_
    refine step_app1 (by rfl) _ _ _ (by rfl) cb 69 (.int .i64 0) Tryz.underlying92 (by kernel_rfl) (by rfl) (S 6) n (C 6) (by rfl) (o0.alloc' _) wc.heap.size _ (V 6) (by rfl) (by go_simp) hn (by simp; omega) (wc.heap.size + 1) (by simp) ?_
    intro g cap w1 ho hg hor hlt
    obtain ⟨qb, qc, qf, hst⟩ := AddN.step h6 (by omega) hcb ho hg hor hlt
    refine tr hK (fun hHeld => ?_) (by (try dsimp only); exact qb)
    clear hK K
    refine tq 10 hHeld ?_
    refine tq 11 hHeld ?_
    (refine tc 12 fun K hK => ?_; go_simp; refine tr hK (fun hHeld => ?_) (by (try dsimp only); exact (cset_far (by simp; omega)).trans qb); clear hK K)
    refine wpAnyH_done (by kernel_rfl) ?_ _
    go_wp2_with fail
    go_meet
    exact ⟨_, hst⟩
  case rest =>
  obtain ⟨S7, h7⟩ := hcut
  clear b0 o0 c0 f0 z0 l0 h6
  go_upto_region 8 with fail
  have b0 := h7.body 7 (by omega)
  obtain ⟨e0, o0⟩ := h7.todo 7 (by omega) (by omega)
  have c0 := h7.hd 7 (by omega)
  rw [e0] at c0
  clear e0
  have f0 := h7.nf 7 (by omega)
  have z0 := h7.big
  have l0 : cb < wc.heap.size := by omega
  go_cut [] (fun wc => ∃ S', AddN w wc cb n C V S 8 S')
  case first =>
    refine wp_region_held_drew (S := fun w' => w'.cell? ⟨w.heap.size, 7, none⟩ = some (.int .i64 (V 7))) (by kernel_rfl) ?_ (fun hHeld => ?_)
    · (try dsimp only)
      (first | (go_simp; done) | (go_keep; done))
    refine tq 0 hHeld ?_
    refine tq 1 hHeld ?_
    refine tq 2 hHeld ?_
    refine tq 3 hHeld ?_
    refine tq 5 hHeld ?_
    refine tq 6 hHeld ?_
    refine tq 7 hHeld ?_
    refine td 4 8 hHeld (fun hHeld => ?_)
    refine tc 9 fun K hK => ?_
    refine step_app1 (by rfl) _ _ _ (by rfl) cb 69 (.int .i64 0) Tryz.underlying92 (by kernel_rfl) (by rfl) (S 7) n (C 7) (by rfl) (o0.alloc' _) wc.heap.size _ (V 7) (by rfl) (by go_simp) hn (by simp; omega) (wc.heap.size + 1) (by simp) ?_
    intro g cap w1 ho hg hor hlt
    obtain ⟨qb, qc, qf, hst⟩ := AddN.step h7 (by omega) hcb ho hg hor hlt
    refine tr hK (fun hHeld => ?_) (by (try dsimp only); exact qb)
    clear hK K
    refine tq 10 hHeld ?_
    refine tq 11 hHeld ?_
    (refine tc 12 fun K hK => ?_; go_simp; refine tr hK (fun hHeld => ?_) (by (try dsimp only); exact (cset_far (by simp; omega)).trans qb); clear hK K)
    refine wpAnyH_done (by kernel_rfl) ?_ _
    go_wp2_with fail
    go_meet
    exact ⟨_, hst⟩
  case rest =>
  obtain ⟨S8, h8⟩ := hcut
  clear b0 o0 c0 f0 z0 l0 h7
  go_upto_region 9 with fail
  have b0 := h8.body 8 (by omega)
  obtain ⟨e0, o0⟩ := h8.todo 8 (by omega) (by omega)
  have c0 := h8.hd 8 (by omega)
  rw [e0] at c0
  clear e0
  have f0 := h8.nf 8 (by omega)
  have z0 := h8.big
  have l0 : cb < wc.heap.size := by omega
  go_cut [] (fun wc => ∃ S', AddN w wc cb n C V S 9 S')
  case first =>
    refine wp_region_held_drew (S := fun w' => w'.cell? ⟨w.heap.size, 8, none⟩ = some (.int .i64 (V 8))) (by kernel_rfl) ?_ (fun hHeld => ?_)
    · (try dsimp only)
      (first | (go_simp; done) | (go_keep; done))
    refine tq 0 hHeld ?_
    refine tq 1 hHeld ?_
    refine tq 2 hHeld ?_
    refine tq 3 hHeld ?_
    refine tq 5 hHeld ?_
    refine tq 6 hHeld ?_
    refine td 4 7 hHeld (fun hHeld => ?_)
    refine tc 8 fun K hK => ?_
    refine step_app1 (by rfl) _ _ _ (by rfl) cb 69 (.int .i64 0) Tryz.underlying92 (by kernel_rfl) (by rfl) (S 8) n (C 8) (by rfl) (o0.alloc' _) wc.heap.size _ (V 8) (by rfl) (by go_simp) hn (by simp; omega) (wc.heap.size + 1) (by simp) ?_
    intro g cap w1 ho hg hor hlt
    obtain ⟨qb, qc, qf, hst⟩ := AddN.step h8 (by omega) hcb ho hg hor hlt
    refine tr hK (fun hHeld => ?_) (by (try dsimp only); exact qb)
    clear hK K
    refine tq 9 hHeld ?_
    refine tq 10 hHeld ?_
    (refine tc 11 fun K hK => ?_; go_simp; refine tr hK (fun hHeld => ?_) (by (try dsimp only); exact (cset_far (by simp; omega)).trans qb); clear hK K)
    refine wpAnyH_done (by kernel_rfl) ?_ _
    go_wp2_with fail
    go_meet
    exact ⟨_, hst⟩
  case rest =>
  obtain ⟨S9, h9⟩ := hcut
  clear b0 o0 c0 f0 z0 l0 h8
  go_upto_region 10 with fail
  have b0 := h9.body 9 (by omega)
  obtain ⟨e0, o0⟩ := h9.todo 9 (by omega) (by omega)
  have c0 := h9.hd 9 (by omega)
  rw [e0] at c0
  clear e0
  have f0 := h9.nf 9 (by omega)
  have z0 := h9.big
  have l0 : cb < wc.heap.size := by omega
  go_cut [] (fun wc => ∃ S', AddN w wc cb n C V S 10 S')
  case first =>
    refine wp_region_held_drew (S := fun w' => w'.cell? ⟨w.heap.size, 9, none⟩ = some (.int .i64 (V 9))) (by kernel_rfl) ?_ (fun hHeld => ?_)
    · (try dsimp only)
      (first | (go_simp; done) | (go_keep; done))
    refine tq 0 hHeld ?_
    refine tq 1 hHeld ?_
    refine tq 2 hHeld ?_
    refine tq 3 hHeld ?_
    refine tq 5 hHeld ?_
    refine tq 6 hHeld ?_
    refine td 4 7 hHeld (fun hHeld => ?_)
    refine tc 8 fun K hK => ?_
    refine step_app1 (by rfl) _ _ _ (by rfl) cb 69 (.int .i64 0) Tryz.underlying92 (by kernel_rfl) (by rfl) (S 9) n (C 9) (by rfl) (o0.alloc' _) wc.heap.size _ (V 9) (by rfl) (by go_simp) hn (by simp; omega) (wc.heap.size + 1) (by simp) ?_
    intro g cap w1 ho hg hor hlt
    obtain ⟨qb, qc, qf, hst⟩ := AddN.step h9 (by omega) hcb ho hg hor hlt
    refine tr hK (fun hHeld => ?_) (by (try dsimp only); exact qb)
    clear hK K
    refine tq 9 hHeld ?_
    refine tq 10 hHeld ?_
    (refine tc 11 fun K hK => ?_; go_simp; refine tr hK (fun hHeld => ?_) (by (try dsimp only); exact (cset_far (by simp; omega)).trans qb); clear hK K)
    refine wpAnyH_done (by kernel_rfl) ?_ _
    go_wp2_with fail
    go_meet
    exact ⟨_, hst⟩
  case rest =>
  obtain ⟨S10, h10⟩ := hcut
  clear b0 o0 c0 f0 z0 l0 h9
  go_upto_region 11 with fail
  have b0 := h10.body 10 (by omega)
  obtain ⟨e0, o0⟩ := h10.todo 10 (by omega) (by omega)
  have c0 := h10.hd 10 (by omega)
  rw [e0] at c0
  clear e0
  have f0 := h10.nf 10 (by omega)
  have z0 := h10.big
  have l0 : cb < wc.heap.size := by omega
  go_cut [] (fun wc => ∃ S', AddN w wc cb n C V S 11 S')
  case first =>
    refine wp_region_held_drew (S := fun w' => w'.cell? ⟨w.heap.size, 10, none⟩ = some (.int .i64 (V 10))) (by kernel_rfl) ?_ (fun hHeld => ?_)
    · (try dsimp only)
      (first | (go_simp; done) | (go_keep; done))
    refine tq 0 hHeld ?_
    refine tq 1 hHeld ?_
    refine tq 2 hHeld ?_
    refine tq 3 hHeld ?_
    refine tq 5 hHeld ?_
    refine tq 6 hHeld ?_
    refine td 4 7 hHeld (fun hHeld => ?_)
    refine tc 8 fun K hK => ?_
    refine step_app1 (by rfl) _ _ _ (by rfl) cb 69 (.int .i64 0) Tryz.underlying92 (by kernel_rfl) (by rfl) (S 10) n (C 10) (by rfl) (o0.alloc' _) wc.heap.size _ (V 10) (by rfl) (by go_simp) hn (by simp; omega) (wc.heap.size + 1) (by simp) ?_
    intro g cap w1 ho hg hor hlt
    obtain ⟨qb, qc, qf, hst⟩ := AddN.step h10 (by omega) hcb ho hg hor hlt
    refine tr hK (fun hHeld => ?_) (by (try dsimp only); exact qb)
    clear hK K
    refine tq 9 hHeld ?_
    refine tq 10 hHeld ?_
    (refine tc 11 fun K hK => ?_; go_simp; refine tr hK (fun hHeld => ?_) (by (try dsimp only); exact (cset_far (by simp; omega)).trans qb); clear hK K)
    refine wpAnyH_done (by kernel_rfl) ?_ _
    go_wp2_with fail
    go_meet
    exact ⟨_, hst⟩
  case rest =>
  obtain ⟨S11, h11⟩ := hcut
  clear b0 o0 c0 f0 z0 l0 h10
  go_upto_region 12 with fail
  have b0 := h11.body 11 (by omega)
  obtain ⟨e0, o0⟩ := h11.todo 11 (by omega) (by omega)
  have c0 := h11.hd 11 (by omega)
  rw [e0] at c0
  clear e0
  have f0 := h11.nf 11 (by omega)
  have z0 := h11.big
  have l0 : cb < wc.heap.size := by omega
  refine wp_region_held_drew (S := fun w' => w'.cell? ⟨w.heap.size, 11, none⟩ = some (.int .i64 (V 11))) (by kernel_rfl) ?_ (fun hHeld => ?_)
  · (try dsimp only)
    (first | (go_simp; done) | (go_keep; done))
  refine tq 0 hHeld ?_
  refine tq 1 hHeld ?_
  refine tq 2 hHeld ?_
  refine tq 3 hHeld ?_
  refine tq 5 hHeld ?_
  refine tq 6 hHeld ?_
  refine td 4 7 hHeld (fun hHeld => ?_)
  refine tc 8 fun K hK => ?_
  refine step_app1 (by rfl) _ _ _ (by rfl) cb 69 (.int .i64 0) Tryz.underlying92 (by kernel_rfl) (by rfl) (S 11) n (C 11) (by rfl) (o0.alloc' _) wc.heap.size _ (V 11) (by rfl) (by go_simp) hn (by simp; omega) (wc.heap.size + 1) (by simp) ?_
  intro g cap w1 ho hg hor hlt
  obtain ⟨qb, qc, qf, hst⟩ := AddN.step h11 (by omega) hcb ho hg hor hlt
  refine tr hK (fun hHeld => ?_) (by (try dsimp only); exact qb)
  clear hK K
  refine tq 9 hHeld ?_
  refine tq 10 hHeld ?_
  (refine tc 11 fun K hK => ?_; go_simp; refine tr hK (fun hHeld => ?_) (by (try dsimp only); exact (cset_far (by simp; omega)).trans qb); clear hK K)
  refine wpAnyH_done (by kernel_rfl) ?_ _
  go_wp2_with fail
  go_end0
  exact ⟨rfl, _, hst.cs, hst.fr⟩
end Go.Proofs.YtneacpfdmocifaaGreat
namespace Go.Proofs.YtneacpfdmocifaaGreat
open Go.RowKit
set_option linter.unusedVariables false
set_option linter.unusedSimpArgs false

/-- a list's numbers by columns -/
def colOf (U : Nat → Int) : Nat → Nat → Int := fun i k => U (k * 12 + i)
theorem snoc_col (U : Nat → Int) (n : Nat) {i k : Nat} (hk : k < n + 1) : snocC n (colOf U) (fun j => U (n * 12 + j)) i k = colOf U i k := by
  unfold snocC snoc colOf
  by_cases e : k = n
  · rw [if_pos e, e]
  · rw [if_neg e]
set_option maxRecDepth 20000 in
set_option maxHeartbeats 4000000 in
theorem rowsOf_any (a : Option Addr) (n c : Nat) (U : Nat → Int) (w : World) (h : Flat w a (n * 12) U) (hn : n ≤ 1048575) :
    Calls Tryz.prog 47 #[.slice a n c] w fun e w' => e = .returned (.pointer (some ⟨w.heap.size, 0, none⟩)) ∧ Below w.heap.size w w' ∧ ∃ S, Cs w' w.heap.size n (colOf U) S := by
  have hset := cset_map
  go_enter Tryz.func47, Tryz.ntmps47
  go_wp2
  go_loopw [5, 10] (fun _ i wr => ∃ k : Nat, k ≤ n ∧ i = .int .i64 (k : Int) ∧ Below w.heap.size w wr ∧ ∃ S, Cs wr w.heap.size k (colOf U) S) (fun _ i _ => n - (intOf i).toNat)
  case atStart =>
    refine ⟨0, Nat.zero_le _, rfl, (Below.refl _ _).alloc (Nat.le_refl _) _, fun _ => .slice none 0 0, fun i hi => ?_, fun i hi => ?_, fun i hi => OwnL.nil _ _ _ _ _, (fun _ _ _ e => by cases e), (fun _ _ _ _ _ _ e => by cases e)⟩
    · rcases (show i = 0 ∨ i = 1 ∨ i = 2 ∨ i = 3 ∨ i = 4 ∨ i = 5 ∨ i = 6 ∨ i = 7 ∨ i = 8 ∨ i = 9 ∨ i = 10 ∨ i = 11 by omega) with rfl | rfl | rfl | rfl | rfl | rfl | rfl | rfl | rfl | rfl | rfl | rfl <;> go_simp
    · go_simp
  case round =>
    obtain ⟨k, hk, rfl, hB, S, hC⟩ := hrel
    by_cases hlt : k < n
    · obtain ⟨b, o, rfl, hbl, hc⟩ := h (by omega)
      have hc' : ∀ q, q < n * 12 → wr.cell? ⟨b, o + q, none⟩ = some (.int .i64 (U q)) := fun q hq => (hB.cell (p := ⟨b, o + q, none⟩) hbl).trans (hc q hq)
      clear hc
      have c0 := hc' (k * 12) (by omega)
      have c1 := hc' (k * 12 + 1) (by omega)
      have c2 := hc' (k * 12 + 2) (by omega)
      have c3 := hc' (k * 12 + 3) (by omega)
      have c4 := hc' (k * 12 + 4) (by omega)
      have c5 := hc' (k * 12 + 5) (by omega)
      have c6 := hc' (k * 12 + 6) (by omega)
      have c7 := hc' (k * 12 + 7) (by omega)
      have c8 := hc' (k * 12 + 8) (by omega)
      have c9 := hc' (k * 12 + 9) (by omega)
      have c10 := hc' (k * 12 + 10) (by omega)
      have c11 := hc' (k * 12 + 11) (by omega)
      simp only [← Nat.add_assoc] at c0 c1 c2 c3 c4 c5 c6 c7 c8 c9 c10 c11
      clear hc'
      go_upto_region 5 with fail
      have hE : Below wr.heap.size wr (wr.alloc (Obj.cells #[.int .i64 (U (k * 12)), .int .i64 (U (k * 12 + 1)), .int .i64 (U (k * 12 + 2)), .int .i64 (U (k * 12 + 3)), .int .i64 (U (k * 12 + 4)), .int .i64 (U (k * 12 + 5)), .int .i64 (U (k * 12 + 6)), .int .i64 (U (k * 12 + 7)), .int .i64 (U (k * 12 + 8)), .int .i64 (U (k * 12 + 9)), .int .i64 (U (k * 12 + 10)), .int .i64 (U (k * 12 + 11))] 38)) := (Below.refl _ _).alloc (Nat.le_refl _) _
      have hB2 := hB.trans (hE.mono hB.size)
      have hC2 := hC.below hE
      have x0 : (wr.alloc (Obj.cells #[.int .i64 (U (k * 12)), .int .i64 (U (k * 12 + 1)), .int .i64 (U (k * 12 + 2)), .int .i64 (U (k * 12 + 3)), .int .i64 (U (k * 12 + 4)), .int .i64 (U (k * 12 + 5)), .int .i64 (U (k * 12 + 6)), .int .i64 (U (k * 12 + 7)), .int .i64 (U (k * 12 + 8)), .int .i64 (U (k * 12 + 9)), .int .i64 (U (k * 12 + 10)), .int .i64 (U (k * 12 + 11))] 38)).cell? ⟨wr.heap.size, 0, none⟩ = some (.int .i64 (U (k * 12))) := by go_simp
      have x1 : (wr.alloc (Obj.cells #[.int .i64 (U (k * 12)), .int .i64 (U (k * 12 + 1)), .int .i64 (U (k * 12 + 2)), .int .i64 (U (k * 12 + 3)), .int .i64 (U (k * 12 + 4)), .int .i64 (U (k * 12 + 5)), .int .i64 (U (k * 12 + 6)), .int .i64 (U (k * 12 + 7)), .int .i64 (U (k * 12 + 8)), .int .i64 (U (k * 12 + 9)), .int .i64 (U (k * 12 + 10)), .int .i64 (U (k * 12 + 11))] 38)).cell? ⟨wr.heap.size, 1, none⟩ = some (.int .i64 (U (k * 12 + 1))) := by go_simp
      have x2 : (wr.alloc (Obj.cells #[.int .i64 (U (k * 12)), .int .i64 (U (k * 12 + 1)), .int .i64 (U (k * 12 + 2)), .int .i64 (U (k * 12 + 3)), .int .i64 (U (k * 12 + 4)), .int .i64 (U (k * 12 + 5)), .int .i64 (U (k * 12 + 6)), .int .i64 (U (k * 12 + 7)), .int .i64 (U (k * 12 + 8)), .int .i64 (U (k * 12 + 9)), .int .i64 (U (k * 12 + 10)), .int .i64 (U (k * 12 + 11))] 38)).cell? ⟨wr.heap.size, 2, none⟩ = some (.int .i64 (U (k * 12 + 2))) := by go_simp
      have x3 : (wr.alloc (Obj.cells #[.int .i64 (U (k * 12)), .int .i64 (U (k * 12 + 1)), .int .i64 (U (k * 12 + 2)), .int .i64 (U (k * 12 + 3)), .int .i64 (U (k * 12 + 4)), .int .i64 (U (k * 12 + 5)), .int .i64 (U (k * 12 + 6)), .int .i64 (U (k * 12 + 7)), .int .i64 (U (k * 12 + 8)), .int .i64 (U (k * 12 + 9)), .int .i64 (U (k * 12 + 10)), .int .i64 (U (k * 12 + 11))] 38)).cell? ⟨wr.heap.size, 3, none⟩ = some (.int .i64 (U (k * 12 + 3))) := by go_simp
      have x4 : (wr.alloc (Obj.cells #[.int .i64 (U (k * 12)), .int .i64 (U (k * 12 + 1)), .int .i64 (U (k * 12 + 2)), .int .i64 (U (k * 12 + 3)), .int .i64 (U (k * 12 + 4)), .int .i64 (U (k * 12 + 5)), .int .i64 (U (k * 12 + 6)), .int .i64 (U (k * 12 + 7)), .int .i64 (U (k * 12 + 8)), .int .i64 (U (k * 12 + 9)), .int .i64 (U (k * 12 + 10)), .int .i64 (U (k * 12 + 11))] 38)).cell? ⟨wr.heap.size, 4, none⟩ = some (.int .i64 (U (k * 12 + 4))) := by go_simp
      have x5 : (wr.alloc (Obj.cells #[.int .i64 (U (k * 12)), .int .i64 (U (k * 12 + 1)), .int .i64 (U (k * 12 + 2)), .int .i64 (U (k * 12 + 3)), .int .i64 (U (k * 12 + 4)), .int .i64 (U (k * 12 + 5)), .int .i64 (U (k * 12 + 6)), .int .i64 (U (k * 12 + 7)), .int .i64 (U (k * 12 + 8)), .int .i64 (U (k * 12 + 9)), .int .i64 (U (k * 12 + 10)), .int .i64 (U (k * 12 + 11))] 38)).cell? ⟨wr.heap.size, 5, none⟩ = some (.int .i64 (U (k * 12 + 5))) := by go_simp
      have x6 : (wr.alloc (Obj.cells #[.int .i64 (U (k * 12)), .int .i64 (U (k * 12 + 1)), .int .i64 (U (k * 12 + 2)), .int .i64 (U (k * 12 + 3)), .int .i64 (U (k * 12 + 4)), .int .i64 (U (k * 12 + 5)), .int .i64 (U (k * 12 + 6)), .int .i64 (U (k * 12 + 7)), .int .i64 (U (k * 12 + 8)), .int .i64 (U (k * 12 + 9)), .int .i64 (U (k * 12 + 10)), .int .i64 (U (k * 12 + 11))] 38)).cell? ⟨wr.heap.size, 6, none⟩ = some (.int .i64 (U (k * 12 + 6))) := by go_simp
      have x7 : (wr.alloc (Obj.cells #[.int .i64 (U (k * 12)), .int .i64 (U (k * 12 + 1)), .int .i64 (U (k * 12 + 2)), .int .i64 (U (k * 12 + 3)), .int .i64 (U (k * 12 + 4)), .int .i64 (U (k * 12 + 5)), .int .i64 (U (k * 12 + 6)), .int .i64 (U (k * 12 + 7)), .int .i64 (U (k * 12 + 8)), .int .i64 (U (k * 12 + 9)), .int .i64 (U (k * 12 + 10)), .int .i64 (U (k * 12 + 11))] 38)).cell? ⟨wr.heap.size, 7, none⟩ = some (.int .i64 (U (k * 12 + 7))) := by go_simp
      have x8 : (wr.alloc (Obj.cells #[.int .i64 (U (k * 12)), .int .i64 (U (k * 12 + 1)), .int .i64 (U (k * 12 + 2)), .int .i64 (U (k * 12 + 3)), .int .i64 (U (k * 12 + 4)), .int .i64 (U (k * 12 + 5)), .int .i64 (U (k * 12 + 6)), .int .i64 (U (k * 12 + 7)), .int .i64 (U (k * 12 + 8)), .int .i64 (U (k * 12 + 9)), .int .i64 (U (k * 12 + 10)), .int .i64 (U (k * 12 + 11))] 38)).cell? ⟨wr.heap.size, 8, none⟩ = some (.int .i64 (U (k * 12 + 8))) := by go_simp
      have x9 : (wr.alloc (Obj.cells #[.int .i64 (U (k * 12)), .int .i64 (U (k * 12 + 1)), .int .i64 (U (k * 12 + 2)), .int .i64 (U (k * 12 + 3)), .int .i64 (U (k * 12 + 4)), .int .i64 (U (k * 12 + 5)), .int .i64 (U (k * 12 + 6)), .int .i64 (U (k * 12 + 7)), .int .i64 (U (k * 12 + 8)), .int .i64 (U (k * 12 + 9)), .int .i64 (U (k * 12 + 10)), .int .i64 (U (k * 12 + 11))] 38)).cell? ⟨wr.heap.size, 9, none⟩ = some (.int .i64 (U (k * 12 + 9))) := by go_simp
      have x10 : (wr.alloc (Obj.cells #[.int .i64 (U (k * 12)), .int .i64 (U (k * 12 + 1)), .int .i64 (U (k * 12 + 2)), .int .i64 (U (k * 12 + 3)), .int .i64 (U (k * 12 + 4)), .int .i64 (U (k * 12 + 5)), .int .i64 (U (k * 12 + 6)), .int .i64 (U (k * 12 + 7)), .int .i64 (U (k * 12 + 8)), .int .i64 (U (k * 12 + 9)), .int .i64 (U (k * 12 + 10)), .int .i64 (U (k * 12 + 11))] 38)).cell? ⟨wr.heap.size, 10, none⟩ = some (.int .i64 (U (k * 12 + 10))) := by go_simp
      have x11 : (wr.alloc (Obj.cells #[.int .i64 (U (k * 12)), .int .i64 (U (k * 12 + 1)), .int .i64 (U (k * 12 + 2)), .int .i64 (U (k * 12 + 3)), .int .i64 (U (k * 12 + 4)), .int .i64 (U (k * 12 + 5)), .int .i64 (U (k * 12 + 6)), .int .i64 (U (k * 12 + 7)), .int .i64 (U (k * 12 + 8)), .int .i64 (U (k * 12 + 9)), .int .i64 (U (k * 12 + 10)), .int .i64 (U (k * 12 + 11))] 38)).cell? ⟨wr.heap.size, 11, none⟩ = some (.int .i64 (U (k * 12 + 11))) := by go_simp
      generalize (wr.alloc (Obj.cells #[.int .i64 (U (k * 12)), .int .i64 (U (k * 12 + 1)), .int .i64 (U (k * 12 + 2)), .int .i64 (U (k * 12 + 3)), .int .i64 (U (k * 12 + 4)), .int .i64 (U (k * 12 + 5)), .int .i64 (U (k * 12 + 6)), .int .i64 (U (k * 12 + 7)), .int .i64 (U (k * 12 + 8)), .int .i64 (U (k * 12 + 9)), .int .i64 (U (k * 12 + 10)), .int .i64 (U (k * 12 + 11))] 38)) = wx at hE hB2 hC2 x0 x1 x2 x3 x4 x5 x6 x7 x8 x9 x10 x11 ⊢
      clear c0 c1 c2 c3 c4 c5 c6 c7 c8 c9 c10 c11 hE hC hB
      go_wp2_with (go_at_call 78; refine (add_any w.heap.size k (colOf U) (fun j => U (k * 12 + j)) S _ hC2 (by omega)).mono ?_; rintro e w1 ⟨rfl, S1, hC1, hF1⟩)
      go_roundw
      case rel => exact ⟨k + 1, by omega, by go_num, hB2.trans (hF1.below hB2.size (fun x q => q.elim (fun q => Nat.le_of_eq q.symm) (fun q => Nat.le_of_lt (hC2.xlt q).1))), S1, hC1.congr fun i q _ hq => snoc_col U k hq⟩
      case measure => simp [intOf]; omega
    · go_wp2
      go_ret
      obtain rfl : k = n := by omega
      exact ⟨rfl, hB, S, hC⟩
end Go.Proofs.YtneacpfdmocifaaGreat
namespace Go.Proofs.YtneacpfdmocifaaGreat
open Go.RowKit Go.Shelf
set_option linter.unusedVariables false
set_option linter.unusedSimpArgs false
abbrev hdk (cb k : Nat) : Value := .agg #[.int .i64 (k : Int), .pointer (some ⟨cb, 0, none⟩)]
theorem handle_any (cb k : Nat) (w : World) :
    Calls Tryz.prog 48 #[.pointer (some ⟨cb, 0, none⟩), .int .i64 (k : Int)] w fun e w' => e = .returned (hdk cb k) ∧ Below w.heap.size w w' := by
  go_enter Tryz.func48, Tryz.ntmps48
  go_wp2
  exact bodyPost_ret (v := hdk cb k) (by simp [results, Tryz.results48, go_sem, *]) rfl ⟨rfl, by repeat (first | with_reducible apply Below.refl | (with_reducible apply Below.setCell; rotate_left; focus (first | omega | (simp; done) | (simp; omega))) | (with_reducible apply Below.alloc; rotate_left; focus (first | omega | (simp; done) | (simp; omega))))⟩
theorem each_enters : ∀ args w, (callFunc 82 args).run Tryz.prog w = .ok (.enter 82 args) w := enters_of Tryz.func82 (by kernel_rfl) rfl
set_option maxHeartbeats 4000000 in
theorem each_it (cb nn cc : Nat) (ad : Option Addr) (w : World) (hcb : cb < w.heap.size) (hc : w.cell? ⟨cb, 0, none⟩ = some (.slice ad nn cc)) (hn : nn ≤ 1048576) :
    ItC Tryz.prog 82 #[.pointer (some ⟨cb, 0, none⟩)] (fun k => #[hdk cb k]) nn w := by
  intro l J Jx W hbW hJb hJx hY h0
  have hc' : W.cell? ⟨cb, 0, none⟩ = some (.slice ad nn cc) := (hbW.cell (p := ⟨cb, 0, none⟩) hcb).trans hc
  refine callsIn_of_wp Tryz.func82 rfl trivial ?_ rfl
  simp only [Tryz.ntmps82, List.size_toArray, List.length_cons, List.length_nil, Nat.reduceAdd, Nat.reduceSub, Array.replicate_succ, Array.replicate_zero, List.push_toArray, List.append_toArray, List.nil_append, List.cons_append]
  gi_wp2
  gi_loopw [4, 10] (fun _ i wr => ∃ k : Nat, k ≤ nn ∧ i = .int .i64 (k : Int) ∧ J k wr) (fun _ i _ => nn - (intOf i).toNat)
  case atStart => exact ⟨0, Nat.zero_le _, rfl, h0⟩
  case round =>
    obtain ⟨k, hk, rfl, hJ⟩ := hrel
    by_cases hlt : k < nn
    · gi_wp2_with (refine ⟨trivial, rfl, ?_⟩; gi_at_call 48; refine (callsIn_wide.2 (handle_any cb k _)).mono ?_; rintro e w1 ⟨rfl, hb1⟩; have hJ1 := hJb _ _ _ hJ hb1; obtain ⟨fn, tmps, assign, body, hy, hR⟩ := hY k w1 hJ1 hlt)
      refine ⟨rfl, hR.mono ?_⟩
      rintro e w2 (⟨rfl, hJ2⟩ | ⟨rfl, hJx2⟩)
      · gi_wp2
        go_roundw
        case rel => exact ⟨k + 1, by omega, by go_num, hJ2⟩
        case measure => simp [intOf]; omega
      · gi_wp2
        refine bodyPost_ret (results_none rfl _ _ _) rfl ?_
        exact ⟨⟨_, rfl⟩, .inr hJx2⟩
    · gi_wp2
      go_end0
      obtain rfl : k = nn := by omega
      exact ⟨⟨_, rfl⟩, .inl hJ⟩
end Go.Proofs.YtneacpfdmocifaaGreat
