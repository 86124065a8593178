/- How two shapes touch, kind by kind, by the specification. How two shapes touch, by the specification. Bodies that touch, two by two: as numbers; a list that grows in a variable. Two bodies are moved apart, by the specification. Bodies moved apart stay ok; all contacts, one behind the other. Contacts that the specification finds are ok: places of two different bodies, a way within One, a depth within limits. A list that a function makes. The numbers of one block. -/
import Derived.Test.YtpoichpdkkejjaaB2
import Derived.Test.YtpoichpdkkejjaaB9
import Derived.Deep.RegionHeld3
import Derived.Deep.DeepCutAuto
import Derived.Test.YtpoichpdkkejjaaB3
import Derived.Test.YtpoichpdkkejjaaB8
namespace Go.Proofs.Ytpoichpdkkejjaa
open Go.RowKit
set_option linter.unusedVariables false
set_option linter.unusedSimpArgs false

theorem ux_bd2 {x y : Int} (hx : -6000000 ≤ x ∧ x ≤ 6000000) : -1600000000 ≤ ux x y ∧ ux x y ≤ 1600000000 := by
  unfold ux; split
  · omega
  · have := tdiv_bd (x := x * 256) (B := 1600000000) (vl x y) (by omega); exact this
theorem uy_bd2 {x y : Int} (hy : -6000000 ≤ y ∧ y ≤ 6000000) : -1600000000 ≤ uy x y ∧ uy x y ≤ 1600000000 := by
  unfold uy; split
  · omega
  · have := tdiv_bd (x := y * 256) (B := 1600000000) (vl x y) (by omega); exact this
theorem mxT_bd {a b c d x y g X Y D : Int} {K : Bool} (qa : -3000000 ≤ a ∧ a ≤ 3000000) (qb : -3000000 ≤ b ∧ b ≤ 3000000) (qc : -3000000 ≤ c ∧ c ≤ 3000000) (qd : -3000000 ≤ d ∧ d ≤ 3000000) (qx : -3000000 ≤ x ∧ x ≤ 3000000) (qy : -3000000 ≤ y ∧ y ≤ 3000000) (e : mxT a b c d x y g = ((X, Y, D), K)) :
    (-1600000000 ≤ X ∧ X ≤ 1600000000) ∧ (-1600000000 ≤ Y ∧ Y ≤ 1600000000) := by
  unfold mxT at e
  split at e
  · have hb := bsT_bd (s0 := c - x) (s1 := x - a) (s2 := d - y) (s3 := y - b) (B := 6000000) (by omega) (by omega) (by omega) (by omega)
    simp only [Prod.mk.injEq] at e
    obtain ⟨⟨eX, eY, eD⟩, eK⟩ := e
    omega
  · have n1 := near_in (a := a) (c := c) (x := x) (B := 3000000) (by omega) (by omega) (by omega)
    have n2 := near_in (a := b) (c := d) (x := y) (B := 3000000) (by omega) (by omega) (by omega)
    unfold rdT at e
    split at e
    · simp only [Prod.mk.injEq] at e
      obtain ⟨⟨eX, eY, eD⟩, eK⟩ := e
      have h1 := ux_bd2 (x := x - mn (mx x a) c) (y := y - mn (mx y b) d) (by omega)
      have h2 := uy_bd2 (x := x - mn (mx x a) c) (y := y - mn (mx y b) d) (by omega)
      omega
    · simp only [Prod.mk.injEq] at e
      obtain ⟨⟨eX, eY, eD⟩, eK⟩ := e
      omega
def tnT (m : (Int × Int × Int) × Bool) : (Int × Int × Int) × Bool := if m.2 = true then ((-m.1.1, -m.1.2.1, m.1.2.2), true) else ((0, 0, 0), false)

set_option maxHeartbeats 4000000 in
theorem sT_rr (g1 g2 x y u v X Y D : Int) (K : Bool) (w : World) (lg1 : 1 ≤ g1 ∧ g1 ≤ 25600) (lg2 : 1 ≤ g2 ∧ g2 ≤ 25600) (px : -2560000 ≤ x ∧ x ≤ 2560000) (py : -2560000 ≤ y ∧ y ≤ 2560000) (pu : -2560000 ≤ u ∧ u ≤ 2560000) (pv : -2560000 ≤ v ∧ v ≤ 2560000) (e : rdT (u - x) (v - y) (g1 + g2) = ((X, Y, D), K)) :
    Calls Try.prog 64 #[s3 1 g1 0, vv x y, s3 1 g2 0, vv u v] w fun e w' => e = .returned (.tuple #[s3 X Y D, .bool K]) ∧ Below w.heap.size w w' := by
  have hset := cset_map
  have w1 := i64w (n := g1 + g2) (by omega)
  go_enter Try.func64, Try.ntmps64
  go_wp2_with (go_at_call 73; refine (l5Rounds_q _ _ _ _ _ X Y D _ _ (by omega) (by omega) (by omega) (by omega) (by omega) e).mono ?_; rintro e w1 ⟨rfl, hb1⟩; obtain ⟨hc1, hf1⟩ := bcell hb1; have hz1 := hb1.size; (try simp only [World.size_drew, World.size_alloc, World.size_setCell] at hc1 hf1 hz1); have hk1x0 := fun o => hc1 (w.heap.size) o (by omega); have hj1x0 := fun o => hf1 (w.heap.size) o (by omega); have hq1x0 : w.heap.size < w1.heap.size := (by omega); have hk1x1 := fun o => hc1 (w.heap.size + 1) o (by omega); have hj1x1 := fun o => hf1 (w.heap.size + 1) o (by omega); have hq1x1 : w.heap.size + 1 < w1.heap.size := (by omega); have hk1x2 := fun o => hc1 (w.heap.size + 1 + 1) o (by omega); have hj1x2 := fun o => hf1 (w.heap.size + 1 + 1) o (by omega); have hq1x2 : w.heap.size + 1 + 1 < w1.heap.size := (by omega); have hk1x3 := fun o => hc1 (w.heap.size + 1 + 1 + 1) o (by omega); have hj1x3 := fun o => hf1 (w.heap.size + 1 + 1 + 1) o (by omega); have hq1x3 : w.heap.size + 1 + 1 + 1 < w1.heap.size := (by omega); have hk1x4 := fun o => hc1 (w.heap.size + 1 + 1 + 1 + 1) o (by omega); have hj1x4 := fun o => hf1 (w.heap.size + 1 + 1 + 1 + 1) o (by omega); have hq1x4 : w.heap.size + 1 + 1 + 1 + 1 < w1.heap.size := (by omega); clear hc1 hf1)
  exact bodyPost_ret (v := .tuple #[s3 X Y D, .bool K]) (by simp [results, Try.results64, go_sem, *]) rfl ⟨rfl, by repeat (first | with_reducible apply Below.refl | (with_reducible apply Below.setCell; rotate_left; focus (first | omega | (simp; done) | (simp; omega))) | (with_reducible apply Below.alloc; rotate_left; focus (first | omega | (simp; done) | (simp; omega))) | with_reducible apply Below.drew | with_reducible apply belowDrewN | (with_reducible apply Below.trans; rotate_left; with_reducible apply Below.mono; with_reducible assumption; focus (first | omega | (simp; done) | (simp; omega))))⟩

set_option maxHeartbeats 4000000 in
theorem sT_bb (g1 h1 g2 h2 x y u v X Y D : Int) (K : Bool) (w : World) (lg1 : 1 ≤ g1 ∧ g1 ≤ 25600) (lh1 : 1 ≤ h1 ∧ h1 ≤ 25600) (lg2 : 1 ≤ g2 ∧ g2 ≤ 25600) (lh2 : 1 ≤ h2 ∧ h2 ≤ 25600) (px : -2560000 ≤ x ∧ x ≤ 2560000) (py : -2560000 ≤ y ∧ y ≤ 2560000) (pu : -2560000 ≤ u ∧ u ≤ 2560000) (pv : -2560000 ≤ v ∧ v ≤ 2560000) (e : bxT (x - g1) (y - h1) (x + g1) (y + h1) (u - g2) (v - h2) (u + g2) (v + h2) = ((X, Y, D), K)) :
    Calls Try.prog 64 #[s3 2 g1 h1, vv x y, s3 2 g2 h2, vv u v] w fun e w' => e = .returned (.tuple #[s3 X Y D, .bool K]) ∧ Below w.heap.size w w' := by
  have hset := cset_map
  go_enter Try.func64, Try.ntmps64
  go_upto_region 4 with fail
  refine wp_region_held_drew (S := fun w' => w'.cell? ⟨w.heap.size, 0, none⟩ = some (.int .i64 2) ∧ w'.cell? ⟨w.heap.size, 1, none⟩ = some (.int .i64 g1) ∧ w'.cell? ⟨w.heap.size, 2, none⟩ = some (.int .i64 h1) ∧ w'.cell? ⟨w.heap.size + 1, 0, none⟩ = some (.int .i64 x) ∧ w'.cell? ⟨w.heap.size + 1, 1, none⟩ = some (.int .i64 y) ∧ w'.cell? ⟨w.heap.size + 1 + 1, 0, none⟩ = some (.int .i64 2) ∧ w'.cell? ⟨w.heap.size + 1 + 1, 1, none⟩ = some (.int .i64 g2) ∧ w'.cell? ⟨w.heap.size + 1 + 1, 2, none⟩ = some (.int .i64 h2) ∧ w'.cell? ⟨w.heap.size + 1 + 1 + 1, 0, none⟩ = some (.int .i64 u) ∧ w'.cell? ⟨w.heap.size + 1 + 1 + 1, 1, none⟩ = some (.int .i64 v)) (by kernel_rfl) ?_ (fun hHeld => ?_)
  · (try dsimp only)
    (first | (go_simp; done) | (go_keep; done))
  refine tq 0 hHeld ?_
  refine tq 1 hHeld ?_
  refine tq 3 hHeld ?_
  refine tq 4 hHeld ?_
  (refine tc 2 fun K hK => ?_; go_simp; (go_at_call 75; refine (l3Bounds_b _ _ _ _ _ (by omega) (by omega) (by omega) (by omega) (by omega) (by omega)).mono ?_; rintro e w1 ⟨rfl, hb1⟩; obtain ⟨hc1, hf1⟩ := bcell hb1; have hz1 := hb1.size; (try simp only [World.size_drew, World.size_alloc, World.size_setCell] at hc1 hf1 hz1); have hk1x0 := fun o => hc1 (w.heap.size) o (by omega); have hj1x0 := fun o => hf1 (w.heap.size) o (by omega); have hq1x0 : w.heap.size < w1.heap.size := (by omega); have hk1x1 := fun o => hc1 (w.heap.size + 1) o (by omega); have hj1x1 := fun o => hf1 (w.heap.size + 1) o (by omega); have hq1x1 : w.heap.size + 1 < w1.heap.size := (by omega); have hk1x2 := fun o => hc1 (w.heap.size + 1 + 1) o (by omega); have hj1x2 := fun o => hf1 (w.heap.size + 1 + 1) o (by omega); have hq1x2 : w.heap.size + 1 + 1 < w1.heap.size := (by omega); have hk1x3 := fun o => hc1 (w.heap.size + 1 + 1 + 1) o (by omega); have hj1x3 := fun o => hf1 (w.heap.size + 1 + 1 + 1) o (by omega); have hq1x3 : w.heap.size + 1 + 1 + 1 < w1.heap.size := (by omega); have hk1x4 := fun o => hc1 (w.heap.size + 1 + 1 + 1 + 1) o (by omega); have hj1x4 := fun o => hf1 (w.heap.size + 1 + 1 + 1 + 1) o (by omega); have hq1x4 : w.heap.size + 1 + 1 + 1 + 1 < w1.heap.size := (by omega); clear hc1 hf1); (try go_wp2_with fail); refine tr hK (fun hHeld => ?_); clear hK K)
  (refine tc 5 fun K hK => ?_; go_simp; (go_at_call 75; refine (l3Bounds_b _ _ _ _ _ (by omega) (by omega) (by omega) (by omega) (by omega) (by omega)).mono ?_; rintro e w2 ⟨rfl, hb2⟩; obtain ⟨hc2, hf2⟩ := bcell hb2; have hz2 := hb2.size; (try simp only [World.size_drew, World.size_alloc, World.size_setCell] at hc2 hf2 hz2); have hk2x0 := fun o => hc2 (w.heap.size) o (by omega); have hj2x0 := fun o => hf2 (w.heap.size) o (by omega); have hq2x0 : w.heap.size < w2.heap.size := (by omega); have hk2x1 := fun o => hc2 (w.heap.size + 1) o (by omega); have hj2x1 := fun o => hf2 (w.heap.size + 1) o (by omega); have hq2x1 : w.heap.size + 1 < w2.heap.size := (by omega); have hk2x2 := fun o => hc2 (w.heap.size + 1 + 1) o (by omega); have hj2x2 := fun o => hf2 (w.heap.size + 1 + 1) o (by omega); have hq2x2 : w.heap.size + 1 + 1 < w2.heap.size := (by omega); have hk2x3 := fun o => hc2 (w.heap.size + 1 + 1 + 1) o (by omega); have hj2x3 := fun o => hf2 (w.heap.size + 1 + 1 + 1) o (by omega); have hq2x3 : w.heap.size + 1 + 1 + 1 < w2.heap.size := (by omega); have hk2x4 := fun o => hc2 (w.heap.size + 1 + 1 + 1 + 1) o (by omega); have hj2x4 := fun o => hf2 (w.heap.size + 1 + 1 + 1 + 1) o (by omega); have hq2x4 : w.heap.size + 1 + 1 + 1 + 1 < w2.heap.size := (by omega); clear hc2 hf2); (try go_wp2_with fail); refine tr hK (fun hHeld => ?_); clear hK K)
  (refine tc 6 fun K hK => ?_; go_simp; (go_at_call 74; refine (l5Boxes_q _ _ _ _ _ _ _ _ X Y D _ _ (by omega) (by omega) (by omega) (by omega) (by omega) (by omega) (by omega) (by omega) e).mono ?_; rintro e w3 ⟨rfl, hb3⟩; obtain ⟨hc3, hf3⟩ := bcell hb3; have hz3 := hb3.size; (try simp only [World.size_drew, World.size_alloc, World.size_setCell] at hc3 hf3 hz3); have hk3x0 := fun o => hc3 (w.heap.size) o (by omega); have hj3x0 := fun o => hf3 (w.heap.size) o (by omega); have hq3x0 : w.heap.size < w3.heap.size := (by omega); have hk3x1 := fun o => hc3 (w.heap.size + 1) o (by omega); have hj3x1 := fun o => hf3 (w.heap.size + 1) o (by omega); have hq3x1 : w.heap.size + 1 < w3.heap.size := (by omega); have hk3x2 := fun o => hc3 (w.heap.size + 1 + 1) o (by omega); have hj3x2 := fun o => hf3 (w.heap.size + 1 + 1) o (by omega); have hq3x2 : w.heap.size + 1 + 1 < w3.heap.size := (by omega); have hk3x3 := fun o => hc3 (w.heap.size + 1 + 1 + 1) o (by omega); have hj3x3 := fun o => hf3 (w.heap.size + 1 + 1 + 1) o (by omega); have hq3x3 : w.heap.size + 1 + 1 + 1 < w3.heap.size := (by omega); have hk3x4 := fun o => hc3 (w.heap.size + 1 + 1 + 1 + 1) o (by omega); have hj3x4 := fun o => hf3 (w.heap.size + 1 + 1 + 1 + 1) o (by omega); have hq3x4 : w.heap.size + 1 + 1 + 1 + 1 < w3.heap.size := (by omega); clear hc3 hf3); (try go_wp2_with fail); refine tr hK (fun hHeld => ?_); clear hK K)
  refine tq 7 hHeld ?_
  refine tq 8 hHeld ?_
  (refine tc 9 fun K hK => ?_; go_simp; refine tr hK (fun hHeld => ?_); clear hK K)
  refine tq 10 hHeld ?_
  refine wpAnyH_done (by kernel_rfl) ?_ _
  go_wp2_with fail
  exact bodyPost_ret (v := .tuple #[s3 X Y D, .bool K]) (by simp [results, Try.results64, go_sem, *]) rfl ⟨rfl, by repeat (first | with_reducible apply Below.refl | (with_reducible apply Below.setCell; rotate_left; focus (first | omega | (simp; done) | (simp; omega))) | (with_reducible apply Below.alloc; rotate_left; focus (first | omega | (simp; done) | (simp; omega))) | with_reducible apply Below.drew | with_reducible apply belowDrewN | (with_reducible apply Below.trans; rotate_left; with_reducible apply Below.mono; with_reducible assumption; focus (first | omega | (simp; done) | (simp; omega))))⟩
set_option maxHeartbeats 4000000 in
theorem sT_br (g1 h1 g2 x y u v X Y D : Int) (K : Bool) (w : World) (lg1 : 1 ≤ g1 ∧ g1 ≤ 25600) (lh1 : 1 ≤ h1 ∧ h1 ≤ 25600) (lg2 : 1 ≤ g2 ∧ g2 ≤ 25600) (px : -2560000 ≤ x ∧ x ≤ 2560000) (py : -2560000 ≤ y ∧ y ≤ 2560000) (pu : -2560000 ≤ u ∧ u ≤ 2560000) (pv : -2560000 ≤ v ∧ v ≤ 2560000) (e : mxT (x - g1) (y - h1) (x + g1) (y + h1) u v g2 = ((X, Y, D), K)) :
    Calls Try.prog 64 #[s3 2 g1 h1, vv x y, s3 1 g2 0, vv u v] w fun e w' => e = .returned (.tuple #[s3 X Y D, .bool K]) ∧ Below w.heap.size w w' := by
  have hset := cset_map
  go_enter Try.func64, Try.ntmps64
  go_upto_region 6 with fail
  refine wp_region_held_drew (S := fun w' => w'.cell? ⟨w.heap.size, 0, none⟩ = some (.int .i64 2) ∧ w'.cell? ⟨w.heap.size, 1, none⟩ = some (.int .i64 g1) ∧ w'.cell? ⟨w.heap.size, 2, none⟩ = some (.int .i64 h1) ∧ w'.cell? ⟨w.heap.size + 1, 0, none⟩ = some (.int .i64 x) ∧ w'.cell? ⟨w.heap.size + 1, 1, none⟩ = some (.int .i64 y) ∧ w'.cell? ⟨w.heap.size + 1 + 1, 0, none⟩ = some (.int .i64 1) ∧ w'.cell? ⟨w.heap.size + 1 + 1, 1, none⟩ = some (.int .i64 g2) ∧ w'.cell? ⟨w.heap.size + 1 + 1, 2, none⟩ = some (.int .i64 0) ∧ w'.cell? ⟨w.heap.size + 1 + 1 + 1, 0, none⟩ = some (.int .i64 u) ∧ w'.cell? ⟨w.heap.size + 1 + 1 + 1, 1, none⟩ = some (.int .i64 v)) (by kernel_rfl) ?_ (fun hHeld => ?_)
  · (try dsimp only)
    (first | (go_simp; done) | (go_keep; done))
  refine tq 0 hHeld ?_
  refine tq 1 hHeld ?_
  refine tq 3 hHeld ?_
  refine tq 4 hHeld ?_
  refine tq 5 hHeld ?_
  (refine tc 2 fun K hK => ?_; go_simp; (go_at_call 75; refine (l3Bounds_b _ _ _ _ _ (by omega) (by omega) (by omega) (by omega) (by omega) (by omega)).mono ?_; rintro e w1 ⟨rfl, hb1⟩; obtain ⟨hc1, hf1⟩ := bcell hb1; have hz1 := hb1.size; (try simp only [World.size_drew, World.size_alloc, World.size_setCell] at hc1 hf1 hz1); have hk1x0 := fun o => hc1 (w.heap.size) o (by omega); have hj1x0 := fun o => hf1 (w.heap.size) o (by omega); have hq1x0 : w.heap.size < w1.heap.size := (by omega); have hk1x1 := fun o => hc1 (w.heap.size + 1) o (by omega); have hj1x1 := fun o => hf1 (w.heap.size + 1) o (by omega); have hq1x1 : w.heap.size + 1 < w1.heap.size := (by omega); have hk1x2 := fun o => hc1 (w.heap.size + 1 + 1) o (by omega); have hj1x2 := fun o => hf1 (w.heap.size + 1 + 1) o (by omega); have hq1x2 : w.heap.size + 1 + 1 < w1.heap.size := (by omega); have hk1x3 := fun o => hc1 (w.heap.size + 1 + 1 + 1) o (by omega); have hj1x3 := fun o => hf1 (w.heap.size + 1 + 1 + 1) o (by omega); have hq1x3 : w.heap.size + 1 + 1 + 1 < w1.heap.size := (by omega); have hk1x4 := fun o => hc1 (w.heap.size + 1 + 1 + 1 + 1) o (by omega); have hj1x4 := fun o => hf1 (w.heap.size + 1 + 1 + 1 + 1) o (by omega); have hq1x4 : w.heap.size + 1 + 1 + 1 + 1 < w1.heap.size := (by omega); clear hc1 hf1); (try go_wp2_with fail); refine tr hK (fun hHeld => ?_); clear hK K)
  (refine tc 6 fun K hK => ?_; go_simp; (go_at_call 76; refine (l5Mixed_q _ _ _ _ _ _ _ X Y D _ _ (by omega) (by omega) (by omega) (by omega) (by omega) (by omega) (by omega) e).mono ?_; rintro e w2 ⟨rfl, hb2⟩; obtain ⟨hc2, hf2⟩ := bcell hb2; have hz2 := hb2.size; (try simp only [World.size_drew, World.size_alloc, World.size_setCell] at hc2 hf2 hz2); have hk2x0 := fun o => hc2 (w.heap.size) o (by omega); have hj2x0 := fun o => hf2 (w.heap.size) o (by omega); have hq2x0 : w.heap.size < w2.heap.size := (by omega); have hk2x1 := fun o => hc2 (w.heap.size + 1) o (by omega); have hj2x1 := fun o => hf2 (w.heap.size + 1) o (by omega); have hq2x1 : w.heap.size + 1 < w2.heap.size := (by omega); have hk2x2 := fun o => hc2 (w.heap.size + 1 + 1) o (by omega); have hj2x2 := fun o => hf2 (w.heap.size + 1 + 1) o (by omega); have hq2x2 : w.heap.size + 1 + 1 < w2.heap.size := (by omega); have hk2x3 := fun o => hc2 (w.heap.size + 1 + 1 + 1) o (by omega); have hj2x3 := fun o => hf2 (w.heap.size + 1 + 1 + 1) o (by omega); have hq2x3 : w.heap.size + 1 + 1 + 1 < w2.heap.size := (by omega); have hk2x4 := fun o => hc2 (w.heap.size + 1 + 1 + 1 + 1) o (by omega); have hj2x4 := fun o => hf2 (w.heap.size + 1 + 1 + 1 + 1) o (by omega); have hq2x4 : w.heap.size + 1 + 1 + 1 + 1 < w2.heap.size := (by omega); clear hc2 hf2); (try go_wp2_with fail); refine tr hK (fun hHeld => ?_); clear hK K)
  refine tq 7 hHeld ?_
  refine tq 8 hHeld ?_
  (refine tc 9 fun K hK => ?_; go_simp; refine tr hK (fun hHeld => ?_); clear hK K)
  refine tq 10 hHeld ?_
  refine wpAnyH_done (by kernel_rfl) ?_ _
  go_wp2_with fail
  exact bodyPost_ret (v := .tuple #[s3 X Y D, .bool K]) (by simp [results, Try.results64, go_sem, *]) rfl ⟨rfl, by repeat (first | with_reducible apply Below.refl | (with_reducible apply Below.setCell; rotate_left; focus (first | omega | (simp; done) | (simp; omega))) | (with_reducible apply Below.alloc; rotate_left; focus (first | omega | (simp; done) | (simp; omega))) | with_reducible apply Below.drew | with_reducible apply belowDrewN | (with_reducible apply Below.trans; rotate_left; with_reducible apply Below.mono; with_reducible assumption; focus (first | omega | (simp; done) | (simp; omega))))⟩

set_option maxHeartbeats 8000000 in
theorem sT_rb (g1 g2 h2 x y u v X Y D : Int) (K : Bool) (w : World) (lg1 : 1 ≤ g1 ∧ g1 ≤ 25600) (lg2 : 1 ≤ g2 ∧ g2 ≤ 25600) (lh2 : 1 ≤ h2 ∧ h2 ≤ 25600) (px : -2560000 ≤ x ∧ x ≤ 2560000) (py : -2560000 ≤ y ∧ y ≤ 2560000) (pu : -2560000 ≤ u ∧ u ≤ 2560000) (pv : -2560000 ≤ v ∧ v ≤ 2560000) (e : tnT (mxT (u - g2) (v - h2) (u + g2) (v + h2) x y g1) = ((X, Y, D), K)) :
    Calls Try.prog 64 #[s3 1 g1 0, vv x y, s3 2 g2 h2, vv u v] w fun e w' => e = .returned (.tuple #[s3 X Y D, .bool K]) ∧ Below w.heap.size w w' := by
  have hset := cset_map
  obtain ⟨⟨⟨P, Q, E⟩, Z⟩, eM⟩ : ∃ z, mxT (u - g2) (v - h2) (u + g2) (v + h2) x y g1 = z := ⟨_, rfl⟩
  obtain ⟨hP, hQ⟩ := mxT_bd (by omega) (by omega) (by omega) (by omega) (by omega) (by omega) eM
  rw [eM] at e
  unfold tnT at e
  cases Z with
  | true =>
    simp only [if_true, Prod.mk.injEq] at e
    obtain ⟨⟨eX, eY, eD⟩, eK⟩ := e
    subst eX
    subst eY
    subst eD
    subst eK
    go_enter Try.func64, Try.ntmps64
    go_upto_region 7 with fail
    refine wp_region_held_drew (S := fun w' => w'.cell? ⟨w.heap.size, 0, none⟩ = some (.int .i64 1) ∧ w'.cell? ⟨w.heap.size, 1, none⟩ = some (.int .i64 g1) ∧ w'.cell? ⟨w.heap.size, 2, none⟩ = some (.int .i64 0) ∧ w'.cell? ⟨w.heap.size + 1, 0, none⟩ = some (.int .i64 x) ∧ w'.cell? ⟨w.heap.size + 1, 1, none⟩ = some (.int .i64 y) ∧ w'.cell? ⟨w.heap.size + 1 + 1, 0, none⟩ = some (.int .i64 2) ∧ w'.cell? ⟨w.heap.size + 1 + 1, 1, none⟩ = some (.int .i64 g2) ∧ w'.cell? ⟨w.heap.size + 1 + 1, 2, none⟩ = some (.int .i64 h2) ∧ w'.cell? ⟨w.heap.size + 1 + 1 + 1, 0, none⟩ = some (.int .i64 u) ∧ w'.cell? ⟨w.heap.size + 1 + 1 + 1, 1, none⟩ = some (.int .i64 v)) (by kernel_rfl) ?_ (fun hHeld => ?_)
    · (try dsimp only)
      (first | (go_simp; done) | (go_keep; done))
    refine tq 0 hHeld ?_
    refine tq 1 hHeld ?_
    refine tq 3 hHeld ?_
    refine tq 4 hHeld ?_
    refine tq 5 hHeld ?_
    refine wpAnyH_ready (rs := [2, 10]) (by kernel_rfl) (by simp) ?_
    refine AllReadyH.cons rfl (fun K hK => ?_) (AllReadyH.cons rfl (fun K hK => ?_) AllReadyH.nil)
    · (go_simp; (go_at_call 75; refine (l3Bounds_b _ _ _ _ _ (by omega) (by omega) (by omega) (by omega) (by omega) (by omega)).mono ?_; rintro e w1 ⟨rfl, hb1⟩; obtain ⟨hc1, hf1⟩ := bcell hb1; have hz1 := hb1.size; (try simp only [World.size_drew, World.size_alloc, World.size_setCell] at hc1 hf1 hz1); have hk1x0 := fun o => hc1 (w.heap.size) o (by omega); have hj1x0 := fun o => hf1 (w.heap.size) o (by omega); have hq1x0 : w.heap.size < w1.heap.size := (by omega); have hk1x1 := fun o => hc1 (w.heap.size + 1) o (by omega); have hj1x1 := fun o => hf1 (w.heap.size + 1) o (by omega); have hq1x1 : w.heap.size + 1 < w1.heap.size := (by omega); have hk1x2 := fun o => hc1 (w.heap.size + 1 + 1) o (by omega); have hj1x2 := fun o => hf1 (w.heap.size + 1 + 1) o (by omega); have hq1x2 : w.heap.size + 1 + 1 < w1.heap.size := (by omega); have hk1x3 := fun o => hc1 (w.heap.size + 1 + 1 + 1) o (by omega); have hj1x3 := fun o => hf1 (w.heap.size + 1 + 1 + 1) o (by omega); have hq1x3 : w.heap.size + 1 + 1 + 1 < w1.heap.size := (by omega); have hk1x4 := fun o => hc1 (w.heap.size + 1 + 1 + 1 + 1) o (by omega); have hj1x4 := fun o => hf1 (w.heap.size + 1 + 1 + 1 + 1) o (by omega); have hq1x4 : w.heap.size + 1 + 1 + 1 + 1 < w1.heap.size := (by omega); (try have hk1y0 := fun o => hc1 (w.heap.size + 1 + 1 + 1 + 1 + 1) o (by omega)); (try have hj1y0 := fun o => hf1 (w.heap.size + 1 + 1 + 1 + 1 + 1) o (by omega)); (try have hq1y0 : w.heap.size + 1 + 1 + 1 + 1 + 1 < w1.heap.size := (by omega)); (try have hr1y0 : (w.heap.size + 1 + 1 + 1 + 1 + 1 = w1.heap.size) = False := eq_false (by omega)); (try have ht1y0 : (w1.heap.size = w.heap.size + 1 + 1 + 1 + 1 + 1) = False := eq_false (by omega)); clear hc1 hf1); (try go_wp2_with fail); refine tr hK (fun hHeld => ?_); clear hK K)
      refine wpAnyH_ready (rs := [6, 10]) (by kernel_rfl) (by simp) ?_
      refine AllReadyH.cons rfl (fun K hK => ?_) (AllReadyH.cons rfl (fun K hK => ?_) AllReadyH.nil)
      · (go_simp; (go_at_call 76; refine (l5Mixed_q _ _ _ _ _ _ _ P Q E true _ (by omega) (by omega) (by omega) (by omega) (by omega) (by omega) (by omega) eM).mono ?_; rintro e w2 ⟨rfl, hb2⟩; obtain ⟨hc2, hf2⟩ := bcell hb2; have hz2 := hb2.size; (try simp only [World.size_drew, World.size_alloc, World.size_setCell] at hc2 hf2 hz2); have hk2x0 := fun o => hc2 (w.heap.size) o (by omega); have hj2x0 := fun o => hf2 (w.heap.size) o (by omega); have hq2x0 : w.heap.size < w2.heap.size := (by omega); have hk2x1 := fun o => hc2 (w.heap.size + 1) o (by omega); have hj2x1 := fun o => hf2 (w.heap.size + 1) o (by omega); have hq2x1 : w.heap.size + 1 < w2.heap.size := (by omega); have hk2x2 := fun o => hc2 (w.heap.size + 1 + 1) o (by omega); have hj2x2 := fun o => hf2 (w.heap.size + 1 + 1) o (by omega); have hq2x2 : w.heap.size + 1 + 1 < w2.heap.size := (by omega); have hk2x3 := fun o => hc2 (w.heap.size + 1 + 1 + 1) o (by omega); have hj2x3 := fun o => hf2 (w.heap.size + 1 + 1 + 1) o (by omega); have hq2x3 : w.heap.size + 1 + 1 + 1 < w2.heap.size := (by omega); have hk2x4 := fun o => hc2 (w.heap.size + 1 + 1 + 1 + 1) o (by omega); have hj2x4 := fun o => hf2 (w.heap.size + 1 + 1 + 1 + 1) o (by omega); have hq2x4 : w.heap.size + 1 + 1 + 1 + 1 < w2.heap.size := (by omega); (try have hk2y0 := fun o => hc2 (w.heap.size + 1 + 1 + 1 + 1 + 1) o (by omega)); (try have hj2y0 := fun o => hf2 (w.heap.size + 1 + 1 + 1 + 1 + 1) o (by omega)); (try have hq2y0 : w.heap.size + 1 + 1 + 1 + 1 + 1 < w2.heap.size := (by omega)); (try have hr2y0 : (w.heap.size + 1 + 1 + 1 + 1 + 1 = w2.heap.size) = False := eq_false (by omega)); (try have ht2y0 : (w2.heap.size = w.heap.size + 1 + 1 + 1 + 1 + 1) = False := eq_false (by omega)); (try have hk2y1 := fun o => hc2 (w1.heap.size) o (by omega)); (try have hj2y1 := fun o => hf2 (w1.heap.size) o (by omega)); (try have hq2y1 : w1.heap.size < w2.heap.size := (by omega)); (try have hr2y1 : (w1.heap.size = w2.heap.size) = False := eq_false (by omega)); (try have ht2y1 : (w2.heap.size = w1.heap.size) = False := eq_false (by omega)); clear hc2 hf2); (try go_wp2_with fail); refine tr hK (fun hHeld => ?_); clear hK K)
        refine tq 7 hHeld ?_
        refine tq 8 hHeld ?_
        refine tq 9 hHeld ?_
        (refine tc 10 fun K hK => ?_; go_simp; refine tr hK (fun hHeld => ?_); clear hK K)
        (refine tc 11 fun K hK => ?_; go_simp; refine tr hK (fun hHeld => ?_); clear hK K)
        refine tq 12 hHeld ?_
        refine wpAnyH_done (by kernel_rfl) ?_ _
        go_wp2_with (go_at_call 77; refine (l5Turn_q _ _ _ _ (by omega) (by omega)).mono ?_; rintro e w5 ⟨rfl, hb5⟩; obtain ⟨hc5, hf5⟩ := bcell hb5; have hz5 := hb5.size; (try simp only [World.size_drew, World.size_alloc, World.size_setCell] at hc5 hf5 hz5); have hk5x0 := fun o => hc5 (w.heap.size) o (by omega); have hj5x0 := fun o => hf5 (w.heap.size) o (by omega); have hq5x0 : w.heap.size < w5.heap.size := (by omega); have hk5x1 := fun o => hc5 (w.heap.size + 1) o (by omega); have hj5x1 := fun o => hf5 (w.heap.size + 1) o (by omega); have hq5x1 : w.heap.size + 1 < w5.heap.size := (by omega); have hk5x2 := fun o => hc5 (w.heap.size + 1 + 1) o (by omega); have hj5x2 := fun o => hf5 (w.heap.size + 1 + 1) o (by omega); have hq5x2 : w.heap.size + 1 + 1 < w5.heap.size := (by omega); have hk5x3 := fun o => hc5 (w.heap.size + 1 + 1 + 1) o (by omega); have hj5x3 := fun o => hf5 (w.heap.size + 1 + 1 + 1) o (by omega); have hq5x3 : w.heap.size + 1 + 1 + 1 < w5.heap.size := (by omega); have hk5x4 := fun o => hc5 (w.heap.size + 1 + 1 + 1 + 1) o (by omega); have hj5x4 := fun o => hf5 (w.heap.size + 1 + 1 + 1 + 1) o (by omega); have hq5x4 : w.heap.size + 1 + 1 + 1 + 1 < w5.heap.size := (by omega); clear hc5 hf5)
        exact bodyPost_ret (v := .tuple #[s3 (-P) (-Q) E, .bool true]) (by simp [results, Try.results64, go_sem, *]) rfl ⟨rfl, by repeat (first | with_reducible apply Below.refl | (with_reducible apply Below.setCell; rotate_left; focus (first | omega | (simp; done) | (simp; omega))) | (with_reducible apply Below.alloc; rotate_left; focus (first | omega | (simp; done) | (simp; omega))) | with_reducible apply Below.drew | with_reducible apply belowDrewN | (with_reducible apply Below.trans; rotate_left; with_reducible apply Below.mono; with_reducible assumption; focus (first | omega | (simp; done) | (simp; omega))))⟩
      · (go_simp; refine tr hK (fun hHeld => ?_); clear hK K)
        (refine tc 6 fun K hK => ?_; go_simp; (go_at_call 76; refine (l5Mixed_q _ _ _ _ _ _ _ P Q E true _ (by omega) (by omega) (by omega) (by omega) (by omega) (by omega) (by omega) eM).mono ?_; rintro e w2 ⟨rfl, hb2⟩; obtain ⟨hc2, hf2⟩ := bcell hb2; have hz2 := hb2.size; (try simp only [World.size_drew, World.size_alloc, World.size_setCell] at hc2 hf2 hz2); have hk2x0 := fun o => hc2 (w.heap.size) o (by omega); have hj2x0 := fun o => hf2 (w.heap.size) o (by omega); have hq2x0 : w.heap.size < w2.heap.size := (by omega); have hk2x1 := fun o => hc2 (w.heap.size + 1) o (by omega); have hj2x1 := fun o => hf2 (w.heap.size + 1) o (by omega); have hq2x1 : w.heap.size + 1 < w2.heap.size := (by omega); have hk2x2 := fun o => hc2 (w.heap.size + 1 + 1) o (by omega); have hj2x2 := fun o => hf2 (w.heap.size + 1 + 1) o (by omega); have hq2x2 : w.heap.size + 1 + 1 < w2.heap.size := (by omega); have hk2x3 := fun o => hc2 (w.heap.size + 1 + 1 + 1) o (by omega); have hj2x3 := fun o => hf2 (w.heap.size + 1 + 1 + 1) o (by omega); have hq2x3 : w.heap.size + 1 + 1 + 1 < w2.heap.size := (by omega); have hk2x4 := fun o => hc2 (w.heap.size + 1 + 1 + 1 + 1) o (by omega); have hj2x4 := fun o => hf2 (w.heap.size + 1 + 1 + 1 + 1) o (by omega); have hq2x4 : w.heap.size + 1 + 1 + 1 + 1 < w2.heap.size := (by omega); (try have hk2y0 := fun o => hc2 (w.heap.size + 1 + 1 + 1 + 1 + 1) o (by omega)); (try have hj2y0 := fun o => hf2 (w.heap.size + 1 + 1 + 1 + 1 + 1) o (by omega)); (try have hq2y0 : w.heap.size + 1 + 1 + 1 + 1 + 1 < w2.heap.size := (by omega)); (try have hr2y0 : (w.heap.size + 1 + 1 + 1 + 1 + 1 = w2.heap.size) = False := eq_false (by omega)); (try have ht2y0 : (w2.heap.size = w.heap.size + 1 + 1 + 1 + 1 + 1) = False := eq_false (by omega)); (try have hk2y1 := fun o => hc2 (w1.heap.size) o (by omega)); (try have hj2y1 := fun o => hf2 (w1.heap.size) o (by omega)); (try have hq2y1 : w1.heap.size < w2.heap.size := (by omega)); (try have hr2y1 : (w1.heap.size = w2.heap.size) = False := eq_false (by omega)); (try have ht2y1 : (w2.heap.size = w1.heap.size) = False := eq_false (by omega)); clear hc2 hf2); (try go_wp2_with fail); refine tr hK (fun hHeld => ?_); clear hK K)
        refine tq 7 hHeld ?_
        refine tq 8 hHeld ?_
        refine tq 9 hHeld ?_
        (refine tc 11 fun K hK => ?_; go_simp; refine tr hK (fun hHeld => ?_); clear hK K)
        refine tq 12 hHeld ?_
        refine wpAnyH_done (by kernel_rfl) ?_ _
        go_wp2_with (go_at_call 77; refine (l5Turn_q _ _ _ _ (by omega) (by omega)).mono ?_; rintro e w5 ⟨rfl, hb5⟩; obtain ⟨hc5, hf5⟩ := bcell hb5; have hz5 := hb5.size; (try simp only [World.size_drew, World.size_alloc, World.size_setCell] at hc5 hf5 hz5); have hk5x0 := fun o => hc5 (w.heap.size) o (by omega); have hj5x0 := fun o => hf5 (w.heap.size) o (by omega); have hq5x0 : w.heap.size < w5.heap.size := (by omega); have hk5x1 := fun o => hc5 (w.heap.size + 1) o (by omega); have hj5x1 := fun o => hf5 (w.heap.size + 1) o (by omega); have hq5x1 : w.heap.size + 1 < w5.heap.size := (by omega); have hk5x2 := fun o => hc5 (w.heap.size + 1 + 1) o (by omega); have hj5x2 := fun o => hf5 (w.heap.size + 1 + 1) o (by omega); have hq5x2 : w.heap.size + 1 + 1 < w5.heap.size := (by omega); have hk5x3 := fun o => hc5 (w.heap.size + 1 + 1 + 1) o (by omega); have hj5x3 := fun o => hf5 (w.heap.size + 1 + 1 + 1) o (by omega); have hq5x3 : w.heap.size + 1 + 1 + 1 < w5.heap.size := (by omega); have hk5x4 := fun o => hc5 (w.heap.size + 1 + 1 + 1 + 1) o (by omega); have hj5x4 := fun o => hf5 (w.heap.size + 1 + 1 + 1 + 1) o (by omega); have hq5x4 : w.heap.size + 1 + 1 + 1 + 1 < w5.heap.size := (by omega); clear hc5 hf5)
        exact bodyPost_ret (v := .tuple #[s3 (-P) (-Q) E, .bool true]) (by simp [results, Try.results64, go_sem, *]) rfl ⟨rfl, by repeat (first | with_reducible apply Below.refl | (with_reducible apply Below.setCell; rotate_left; focus (first | omega | (simp; done) | (simp; omega))) | (with_reducible apply Below.alloc; rotate_left; focus (first | omega | (simp; done) | (simp; omega))) | with_reducible apply Below.drew | with_reducible apply belowDrewN | (with_reducible apply Below.trans; rotate_left; with_reducible apply Below.mono; with_reducible assumption; focus (first | omega | (simp; done) | (simp; omega))))⟩
    · (go_simp; refine tr hK (fun hHeld => ?_); clear hK K)
      (refine tc 2 fun K hK => ?_; go_simp; (go_at_call 75; refine (l3Bounds_b _ _ _ _ _ (by omega) (by omega) (by omega) (by omega) (by omega) (by omega)).mono ?_; rintro e w1 ⟨rfl, hb1⟩; obtain ⟨hc1, hf1⟩ := bcell hb1; have hz1 := hb1.size; (try simp only [World.size_drew, World.size_alloc, World.size_setCell] at hc1 hf1 hz1); have hk1x0 := fun o => hc1 (w.heap.size) o (by omega); have hj1x0 := fun o => hf1 (w.heap.size) o (by omega); have hq1x0 : w.heap.size < w1.heap.size := (by omega); have hk1x1 := fun o => hc1 (w.heap.size + 1) o (by omega); have hj1x1 := fun o => hf1 (w.heap.size + 1) o (by omega); have hq1x1 : w.heap.size + 1 < w1.heap.size := (by omega); have hk1x2 := fun o => hc1 (w.heap.size + 1 + 1) o (by omega); have hj1x2 := fun o => hf1 (w.heap.size + 1 + 1) o (by omega); have hq1x2 : w.heap.size + 1 + 1 < w1.heap.size := (by omega); have hk1x3 := fun o => hc1 (w.heap.size + 1 + 1 + 1) o (by omega); have hj1x3 := fun o => hf1 (w.heap.size + 1 + 1 + 1) o (by omega); have hq1x3 : w.heap.size + 1 + 1 + 1 < w1.heap.size := (by omega); have hk1x4 := fun o => hc1 (w.heap.size + 1 + 1 + 1 + 1) o (by omega); have hj1x4 := fun o => hf1 (w.heap.size + 1 + 1 + 1 + 1) o (by omega); have hq1x4 : w.heap.size + 1 + 1 + 1 + 1 < w1.heap.size := (by omega); (try have hk1y0 := fun o => hc1 (w.heap.size + 1 + 1 + 1 + 1 + 1) o (by omega)); (try have hj1y0 := fun o => hf1 (w.heap.size + 1 + 1 + 1 + 1 + 1) o (by omega)); (try have hq1y0 : w.heap.size + 1 + 1 + 1 + 1 + 1 < w1.heap.size := (by omega)); (try have hr1y0 : (w.heap.size + 1 + 1 + 1 + 1 + 1 = w1.heap.size) = False := eq_false (by omega)); (try have ht1y0 : (w1.heap.size = w.heap.size + 1 + 1 + 1 + 1 + 1) = False := eq_false (by omega)); clear hc1 hf1); (try go_wp2_with fail); refine tr hK (fun hHeld => ?_); clear hK K)
      (refine tc 6 fun K hK => ?_; go_simp; (go_at_call 76; refine (l5Mixed_q _ _ _ _ _ _ _ P Q E true _ (by omega) (by omega) (by omega) (by omega) (by omega) (by omega) (by omega) eM).mono ?_; rintro e w2 ⟨rfl, hb2⟩; obtain ⟨hc2, hf2⟩ := bcell hb2; have hz2 := hb2.size; (try simp only [World.size_drew, World.size_alloc, World.size_setCell] at hc2 hf2 hz2); have hk2x0 := fun o => hc2 (w.heap.size) o (by omega); have hj2x0 := fun o => hf2 (w.heap.size) o (by omega); have hq2x0 : w.heap.size < w2.heap.size := (by omega); have hk2x1 := fun o => hc2 (w.heap.size + 1) o (by omega); have hj2x1 := fun o => hf2 (w.heap.size + 1) o (by omega); have hq2x1 : w.heap.size + 1 < w2.heap.size := (by omega); have hk2x2 := fun o => hc2 (w.heap.size + 1 + 1) o (by omega); have hj2x2 := fun o => hf2 (w.heap.size + 1 + 1) o (by omega); have hq2x2 : w.heap.size + 1 + 1 < w2.heap.size := (by omega); have hk2x3 := fun o => hc2 (w.heap.size + 1 + 1 + 1) o (by omega); have hj2x3 := fun o => hf2 (w.heap.size + 1 + 1 + 1) o (by omega); have hq2x3 : w.heap.size + 1 + 1 + 1 < w2.heap.size := (by omega); have hk2x4 := fun o => hc2 (w.heap.size + 1 + 1 + 1 + 1) o (by omega); have hj2x4 := fun o => hf2 (w.heap.size + 1 + 1 + 1 + 1) o (by omega); have hq2x4 : w.heap.size + 1 + 1 + 1 + 1 < w2.heap.size := (by omega); (try have hk2y0 := fun o => hc2 (w.heap.size + 1 + 1 + 1 + 1 + 1) o (by omega)); (try have hj2y0 := fun o => hf2 (w.heap.size + 1 + 1 + 1 + 1 + 1) o (by omega)); (try have hq2y0 : w.heap.size + 1 + 1 + 1 + 1 + 1 < w2.heap.size := (by omega)); (try have hr2y0 : (w.heap.size + 1 + 1 + 1 + 1 + 1 = w2.heap.size) = False := eq_false (by omega)); (try have ht2y0 : (w2.heap.size = w.heap.size + 1 + 1 + 1 + 1 + 1) = False := eq_false (by omega)); (try have hk2y1 := fun o => hc2 (w1.heap.size) o (by omega)); (try have hj2y1 := fun o => hf2 (w1.heap.size) o (by omega)); (try have hq2y1 : w1.heap.size < w2.heap.size := (by omega)); (try have hr2y1 : (w1.heap.size = w2.heap.size) = False := eq_false (by omega)); (try have ht2y1 : (w2.heap.size = w1.heap.size) = False := eq_false (by omega)); clear hc2 hf2); (try go_wp2_with fail); refine tr hK (fun hHeld => ?_); clear hK K)
      refine tq 7 hHeld ?_
      refine tq 8 hHeld ?_
      refine tq 9 hHeld ?_
      (refine tc 11 fun K hK => ?_; go_simp; refine tr hK (fun hHeld => ?_); clear hK K)
      refine tq 12 hHeld ?_
      refine wpAnyH_done (by kernel_rfl) ?_ _
      go_wp2_with (go_at_call 77; refine (l5Turn_q _ _ _ _ (by omega) (by omega)).mono ?_; rintro e w5 ⟨rfl, hb5⟩; obtain ⟨hc5, hf5⟩ := bcell hb5; have hz5 := hb5.size; (try simp only [World.size_drew, World.size_alloc, World.size_setCell] at hc5 hf5 hz5); have hk5x0 := fun o => hc5 (w.heap.size) o (by omega); have hj5x0 := fun o => hf5 (w.heap.size) o (by omega); have hq5x0 : w.heap.size < w5.heap.size := (by omega); have hk5x1 := fun o => hc5 (w.heap.size + 1) o (by omega); have hj5x1 := fun o => hf5 (w.heap.size + 1) o (by omega); have hq5x1 : w.heap.size + 1 < w5.heap.size := (by omega); have hk5x2 := fun o => hc5 (w.heap.size + 1 + 1) o (by omega); have hj5x2 := fun o => hf5 (w.heap.size + 1 + 1) o (by omega); have hq5x2 : w.heap.size + 1 + 1 < w5.heap.size := (by omega); have hk5x3 := fun o => hc5 (w.heap.size + 1 + 1 + 1) o (by omega); have hj5x3 := fun o => hf5 (w.heap.size + 1 + 1 + 1) o (by omega); have hq5x3 : w.heap.size + 1 + 1 + 1 < w5.heap.size := (by omega); have hk5x4 := fun o => hc5 (w.heap.size + 1 + 1 + 1 + 1) o (by omega); have hj5x4 := fun o => hf5 (w.heap.size + 1 + 1 + 1 + 1) o (by omega); have hq5x4 : w.heap.size + 1 + 1 + 1 + 1 < w5.heap.size := (by omega); clear hc5 hf5)
      exact bodyPost_ret (v := .tuple #[s3 (-P) (-Q) E, .bool true]) (by simp [results, Try.results64, go_sem, *]) rfl ⟨rfl, by repeat (first | with_reducible apply Below.refl | (with_reducible apply Below.setCell; rotate_left; focus (first | omega | (simp; done) | (simp; omega))) | (with_reducible apply Below.alloc; rotate_left; focus (first | omega | (simp; done) | (simp; omega))) | with_reducible apply Below.drew | with_reducible apply belowDrewN | (with_reducible apply Below.trans; rotate_left; with_reducible apply Below.mono; with_reducible assumption; focus (first | omega | (simp; done) | (simp; omega))))⟩
  | false =>
    rw [if_neg (by simp)] at e
    simp only [Prod.mk.injEq] at e
    obtain ⟨⟨eX, eY, eD⟩, eK⟩ := e
    subst eX
    subst eY
    subst eD
    subst eK
    go_enter Try.func64, Try.ntmps64
    go_upto_region 7 with fail
    refine wp_region_held_drew (S := fun w' => w'.cell? ⟨w.heap.size, 0, none⟩ = some (.int .i64 1) ∧ w'.cell? ⟨w.heap.size, 1, none⟩ = some (.int .i64 g1) ∧ w'.cell? ⟨w.heap.size, 2, none⟩ = some (.int .i64 0) ∧ w'.cell? ⟨w.heap.size + 1, 0, none⟩ = some (.int .i64 x) ∧ w'.cell? ⟨w.heap.size + 1, 1, none⟩ = some (.int .i64 y) ∧ w'.cell? ⟨w.heap.size + 1 + 1, 0, none⟩ = some (.int .i64 2) ∧ w'.cell? ⟨w.heap.size + 1 + 1, 1, none⟩ = some (.int .i64 g2) ∧ w'.cell? ⟨w.heap.size + 1 + 1, 2, none⟩ = some (.int .i64 h2) ∧ w'.cell? ⟨w.heap.size + 1 + 1 + 1, 0, none⟩ = some (.int .i64 u) ∧ w'.cell? ⟨w.heap.size + 1 + 1 + 1, 1, none⟩ = some (.int .i64 v)) (by kernel_rfl) ?_ (fun hHeld => ?_)
    · (try dsimp only)
      (first | (go_simp; done) | (go_keep; done))
    refine tq 0 hHeld ?_
    refine tq 1 hHeld ?_
    refine tq 3 hHeld ?_
    refine tq 4 hHeld ?_
    refine tq 5 hHeld ?_
    refine wpAnyH_ready (rs := [2, 10]) (by kernel_rfl) (by simp) ?_
    refine AllReadyH.cons rfl (fun K hK => ?_) (AllReadyH.cons rfl (fun K hK => ?_) AllReadyH.nil)
    · (go_simp; (go_at_call 75; refine (l3Bounds_b _ _ _ _ _ (by omega) (by omega) (by omega) (by omega) (by omega) (by omega)).mono ?_; rintro e w1 ⟨rfl, hb1⟩; obtain ⟨hc1, hf1⟩ := bcell hb1; have hz1 := hb1.size; (try simp only [World.size_drew, World.size_alloc, World.size_setCell] at hc1 hf1 hz1); have hk1x0 := fun o => hc1 (w.heap.size) o (by omega); have hj1x0 := fun o => hf1 (w.heap.size) o (by omega); have hq1x0 : w.heap.size < w1.heap.size := (by omega); have hk1x1 := fun o => hc1 (w.heap.size + 1) o (by omega); have hj1x1 := fun o => hf1 (w.heap.size + 1) o (by omega); have hq1x1 : w.heap.size + 1 < w1.heap.size := (by omega); have hk1x2 := fun o => hc1 (w.heap.size + 1 + 1) o (by omega); have hj1x2 := fun o => hf1 (w.heap.size + 1 + 1) o (by omega); have hq1x2 : w.heap.size + 1 + 1 < w1.heap.size := (by omega); have hk1x3 := fun o => hc1 (w.heap.size + 1 + 1 + 1) o (by omega); have hj1x3 := fun o => hf1 (w.heap.size + 1 + 1 + 1) o (by omega); have hq1x3 : w.heap.size + 1 + 1 + 1 < w1.heap.size := (by omega); have hk1x4 := fun o => hc1 (w.heap.size + 1 + 1 + 1 + 1) o (by omega); have hj1x4 := fun o => hf1 (w.heap.size + 1 + 1 + 1 + 1) o (by omega); have hq1x4 : w.heap.size + 1 + 1 + 1 + 1 < w1.heap.size := (by omega); (try have hk1y0 := fun o => hc1 (w.heap.size + 1 + 1 + 1 + 1 + 1) o (by omega)); (try have hj1y0 := fun o => hf1 (w.heap.size + 1 + 1 + 1 + 1 + 1) o (by omega)); (try have hq1y0 : w.heap.size + 1 + 1 + 1 + 1 + 1 < w1.heap.size := (by omega)); (try have hr1y0 : (w.heap.size + 1 + 1 + 1 + 1 + 1 = w1.heap.size) = False := eq_false (by omega)); (try have ht1y0 : (w1.heap.size = w.heap.size + 1 + 1 + 1 + 1 + 1) = False := eq_false (by omega)); clear hc1 hf1); (try go_wp2_with fail); refine tr hK (fun hHeld => ?_); clear hK K)
      refine wpAnyH_ready (rs := [6, 10]) (by kernel_rfl) (by simp) ?_
      refine AllReadyH.cons rfl (fun K hK => ?_) (AllReadyH.cons rfl (fun K hK => ?_) AllReadyH.nil)
      · (go_simp; (go_at_call 76; refine (l5Mixed_q _ _ _ _ _ _ _ P Q E false _ (by omega) (by omega) (by omega) (by omega) (by omega) (by omega) (by omega) eM).mono ?_; rintro e w2 ⟨rfl, hb2⟩; obtain ⟨hc2, hf2⟩ := bcell hb2; have hz2 := hb2.size; (try simp only [World.size_drew, World.size_alloc, World.size_setCell] at hc2 hf2 hz2); have hk2x0 := fun o => hc2 (w.heap.size) o (by omega); have hj2x0 := fun o => hf2 (w.heap.size) o (by omega); have hq2x0 : w.heap.size < w2.heap.size := (by omega); have hk2x1 := fun o => hc2 (w.heap.size + 1) o (by omega); have hj2x1 := fun o => hf2 (w.heap.size + 1) o (by omega); have hq2x1 : w.heap.size + 1 < w2.heap.size := (by omega); have hk2x2 := fun o => hc2 (w.heap.size + 1 + 1) o (by omega); have hj2x2 := fun o => hf2 (w.heap.size + 1 + 1) o (by omega); have hq2x2 : w.heap.size + 1 + 1 < w2.heap.size := (by omega); have hk2x3 := fun o => hc2 (w.heap.size + 1 + 1 + 1) o (by omega); have hj2x3 := fun o => hf2 (w.heap.size + 1 + 1 + 1) o (by omega); have hq2x3 : w.heap.size + 1 + 1 + 1 < w2.heap.size := (by omega); have hk2x4 := fun o => hc2 (w.heap.size + 1 + 1 + 1 + 1) o (by omega); have hj2x4 := fun o => hf2 (w.heap.size + 1 + 1 + 1 + 1) o (by omega); have hq2x4 : w.heap.size + 1 + 1 + 1 + 1 < w2.heap.size := (by omega); (try have hk2y0 := fun o => hc2 (w.heap.size + 1 + 1 + 1 + 1 + 1) o (by omega)); (try have hj2y0 := fun o => hf2 (w.heap.size + 1 + 1 + 1 + 1 + 1) o (by omega)); (try have hq2y0 : w.heap.size + 1 + 1 + 1 + 1 + 1 < w2.heap.size := (by omega)); (try have hr2y0 : (w.heap.size + 1 + 1 + 1 + 1 + 1 = w2.heap.size) = False := eq_false (by omega)); (try have ht2y0 : (w2.heap.size = w.heap.size + 1 + 1 + 1 + 1 + 1) = False := eq_false (by omega)); (try have hk2y1 := fun o => hc2 (w1.heap.size) o (by omega)); (try have hj2y1 := fun o => hf2 (w1.heap.size) o (by omega)); (try have hq2y1 : w1.heap.size < w2.heap.size := (by omega)); (try have hr2y1 : (w1.heap.size = w2.heap.size) = False := eq_false (by omega)); (try have ht2y1 : (w2.heap.size = w1.heap.size) = False := eq_false (by omega)); clear hc2 hf2); (try go_wp2_with fail); refine tr hK (fun hHeld => ?_); clear hK K)
        refine tq 7 hHeld ?_
        refine tq 8 hHeld ?_
        refine tq 9 hHeld ?_
        (refine tc 10 fun K hK => ?_; go_simp; refine tr hK (fun hHeld => ?_); clear hK K)
        (refine tc 11 fun K hK => ?_; go_simp; refine tr hK (fun hHeld => ?_); clear hK K)
        refine tq 12 hHeld ?_
        refine wpAnyH_done (by kernel_rfl) ?_ _
        go_wp2_with fail
        exact bodyPost_ret (v := .tuple #[s3 0 0 0, .bool false]) (by simp [results, Try.results64, go_sem, *]) rfl ⟨rfl, by repeat (first | with_reducible apply Below.refl | (with_reducible apply Below.setCell; rotate_left; focus (first | omega | (simp; done) | (simp; omega))) | (with_reducible apply Below.alloc; rotate_left; focus (first | omega | (simp; done) | (simp; omega))) | with_reducible apply Below.drew | with_reducible apply belowDrewN | (with_reducible apply Below.trans; rotate_left; with_reducible apply Below.mono; with_reducible assumption; focus (first | omega | (simp; done) | (simp; omega))))⟩
      · (go_simp; refine tr hK (fun hHeld => ?_); clear hK K)
        (refine tc 6 fun K hK => ?_; go_simp; (go_at_call 76; refine (l5Mixed_q _ _ _ _ _ _ _ P Q E false _ (by omega) (by omega) (by omega) (by omega) (by omega) (by omega) (by omega) eM).mono ?_; rintro e w2 ⟨rfl, hb2⟩; obtain ⟨hc2, hf2⟩ := bcell hb2; have hz2 := hb2.size; (try simp only [World.size_drew, World.size_alloc, World.size_setCell] at hc2 hf2 hz2); have hk2x0 := fun o => hc2 (w.heap.size) o (by omega); have hj2x0 := fun o => hf2 (w.heap.size) o (by omega); have hq2x0 : w.heap.size < w2.heap.size := (by omega); have hk2x1 := fun o => hc2 (w.heap.size + 1) o (by omega); have hj2x1 := fun o => hf2 (w.heap.size + 1) o (by omega); have hq2x1 : w.heap.size + 1 < w2.heap.size := (by omega); have hk2x2 := fun o => hc2 (w.heap.size + 1 + 1) o (by omega); have hj2x2 := fun o => hf2 (w.heap.size + 1 + 1) o (by omega); have hq2x2 : w.heap.size + 1 + 1 < w2.heap.size := (by omega); have hk2x3 := fun o => hc2 (w.heap.size + 1 + 1 + 1) o (by omega); have hj2x3 := fun o => hf2 (w.heap.size + 1 + 1 + 1) o (by omega); have hq2x3 : w.heap.size + 1 + 1 + 1 < w2.heap.size := (by omega); have hk2x4 := fun o => hc2 (w.heap.size + 1 + 1 + 1 + 1) o (by omega); have hj2x4 := fun o => hf2 (w.heap.size + 1 + 1 + 1 + 1) o (by omega); have hq2x4 : w.heap.size + 1 + 1 + 1 + 1 < w2.heap.size := (by omega); (try have hk2y0 := fun o => hc2 (w.heap.size + 1 + 1 + 1 + 1 + 1) o (by omega)); (try have hj2y0 := fun o => hf2 (w.heap.size + 1 + 1 + 1 + 1 + 1) o (by omega)); (try have hq2y0 : w.heap.size + 1 + 1 + 1 + 1 + 1 < w2.heap.size := (by omega)); (try have hr2y0 : (w.heap.size + 1 + 1 + 1 + 1 + 1 = w2.heap.size) = False := eq_false (by omega)); (try have ht2y0 : (w2.heap.size = w.heap.size + 1 + 1 + 1 + 1 + 1) = False := eq_false (by omega)); (try have hk2y1 := fun o => hc2 (w1.heap.size) o (by omega)); (try have hj2y1 := fun o => hf2 (w1.heap.size) o (by omega)); (try have hq2y1 : w1.heap.size < w2.heap.size := (by omega)); (try have hr2y1 : (w1.heap.size = w2.heap.size) = False := eq_false (by omega)); (try have ht2y1 : (w2.heap.size = w1.heap.size) = False := eq_false (by omega)); clear hc2 hf2); (try go_wp2_with fail); refine tr hK (fun hHeld => ?_); clear hK K)
        refine tq 7 hHeld ?_
        refine tq 8 hHeld ?_
        refine tq 9 hHeld ?_
        (refine tc 11 fun K hK => ?_; go_simp; refine tr hK (fun hHeld => ?_); clear hK K)
        refine tq 12 hHeld ?_
        refine wpAnyH_done (by kernel_rfl) ?_ _
        go_wp2_with fail
        exact bodyPost_ret (v := .tuple #[s3 0 0 0, .bool false]) (by simp [results, Try.results64, go_sem, *]) rfl ⟨rfl, by repeat (first | with_reducible apply Below.refl | (with_reducible apply Below.setCell; rotate_left; focus (first | omega | (simp; done) | (simp; omega))) | (with_reducible apply Below.alloc; rotate_left; focus (first | omega | (simp; done) | (simp; omega))) | with_reducible apply Below.drew | with_reducible apply belowDrewN | (with_reducible apply Below.trans; rotate_left; with_reducible apply Below.mono; with_reducible assumption; focus (first | omega | (simp; done) | (simp; omega))))⟩
    · (go_simp; refine tr hK (fun hHeld => ?_); clear hK K)
      (refine tc 2 fun K hK => ?_; go_simp; (go_at_call 75; refine (l3Bounds_b _ _ _ _ _ (by omega) (by omega) (by omega) (by omega) (by omega) (by omega)).mono ?_; rintro e w1 ⟨rfl, hb1⟩; obtain ⟨hc1, hf1⟩ := bcell hb1; have hz1 := hb1.size; (try simp only [World.size_drew, World.size_alloc, World.size_setCell] at hc1 hf1 hz1); have hk1x0 := fun o => hc1 (w.heap.size) o (by omega); have hj1x0 := fun o => hf1 (w.heap.size) o (by omega); have hq1x0 : w.heap.size < w1.heap.size := (by omega); have hk1x1 := fun o => hc1 (w.heap.size + 1) o (by omega); have hj1x1 := fun o => hf1 (w.heap.size + 1) o (by omega); have hq1x1 : w.heap.size + 1 < w1.heap.size := (by omega); have hk1x2 := fun o => hc1 (w.heap.size + 1 + 1) o (by omega); have hj1x2 := fun o => hf1 (w.heap.size + 1 + 1) o (by omega); have hq1x2 : w.heap.size + 1 + 1 < w1.heap.size := (by omega); have hk1x3 := fun o => hc1 (w.heap.size + 1 + 1 + 1) o (by omega); have hj1x3 := fun o => hf1 (w.heap.size + 1 + 1 + 1) o (by omega); have hq1x3 : w.heap.size + 1 + 1 + 1 < w1.heap.size := (by omega); have hk1x4 := fun o => hc1 (w.heap.size + 1 + 1 + 1 + 1) o (by omega); have hj1x4 := fun o => hf1 (w.heap.size + 1 + 1 + 1 + 1) o (by omega); have hq1x4 : w.heap.size + 1 + 1 + 1 + 1 < w1.heap.size := (by omega); (try have hk1y0 := fun o => hc1 (w.heap.size + 1 + 1 + 1 + 1 + 1) o (by omega)); (try have hj1y0 := fun o => hf1 (w.heap.size + 1 + 1 + 1 + 1 + 1) o (by omega)); (try have hq1y0 : w.heap.size + 1 + 1 + 1 + 1 + 1 < w1.heap.size := (by omega)); (try have hr1y0 : (w.heap.size + 1 + 1 + 1 + 1 + 1 = w1.heap.size) = False := eq_false (by omega)); (try have ht1y0 : (w1.heap.size = w.heap.size + 1 + 1 + 1 + 1 + 1) = False := eq_false (by omega)); clear hc1 hf1); (try go_wp2_with fail); refine tr hK (fun hHeld => ?_); clear hK K)
      (refine tc 6 fun K hK => ?_; go_simp; (go_at_call 76; refine (l5Mixed_q _ _ _ _ _ _ _ P Q E false _ (by omega) (by omega) (by omega) (by omega) (by omega) (by omega) (by omega) eM).mono ?_; rintro e w2 ⟨rfl, hb2⟩; obtain ⟨hc2, hf2⟩ := bcell hb2; have hz2 := hb2.size; (try simp only [World.size_drew, World.size_alloc, World.size_setCell] at hc2 hf2 hz2); have hk2x0 := fun o => hc2 (w.heap.size) o (by omega); have hj2x0 := fun o => hf2 (w.heap.size) o (by omega); have hq2x0 : w.heap.size < w2.heap.size := (by omega); have hk2x1 := fun o => hc2 (w.heap.size + 1) o (by omega); have hj2x1 := fun o => hf2 (w.heap.size + 1) o (by omega); have hq2x1 : w.heap.size + 1 < w2.heap.size := (by omega); have hk2x2 := fun o => hc2 (w.heap.size + 1 + 1) o (by omega); have hj2x2 := fun o => hf2 (w.heap.size + 1 + 1) o (by omega); have hq2x2 : w.heap.size + 1 + 1 < w2.heap.size := (by omega); have hk2x3 := fun o => hc2 (w.heap.size + 1 + 1 + 1) o (by omega); have hj2x3 := fun o => hf2 (w.heap.size + 1 + 1 + 1) o (by omega); have hq2x3 : w.heap.size + 1 + 1 + 1 < w2.heap.size := (by omega); have hk2x4 := fun o => hc2 (w.heap.size + 1 + 1 + 1 + 1) o (by omega); have hj2x4 := fun o => hf2 (w.heap.size + 1 + 1 + 1 + 1) o (by omega); have hq2x4 : w.heap.size + 1 + 1 + 1 + 1 < w2.heap.size := (by omega); (try have hk2y0 := fun o => hc2 (w.heap.size + 1 + 1 + 1 + 1 + 1) o (by omega)); (try have hj2y0 := fun o => hf2 (w.heap.size + 1 + 1 + 1 + 1 + 1) o (by omega)); (try have hq2y0 : w.heap.size + 1 + 1 + 1 + 1 + 1 < w2.heap.size := (by omega)); (try have hr2y0 : (w.heap.size + 1 + 1 + 1 + 1 + 1 = w2.heap.size) = False := eq_false (by omega)); (try have ht2y0 : (w2.heap.size = w.heap.size + 1 + 1 + 1 + 1 + 1) = False := eq_false (by omega)); (try have hk2y1 := fun o => hc2 (w1.heap.size) o (by omega)); (try have hj2y1 := fun o => hf2 (w1.heap.size) o (by omega)); (try have hq2y1 : w1.heap.size < w2.heap.size := (by omega)); (try have hr2y1 : (w1.heap.size = w2.heap.size) = False := eq_false (by omega)); (try have ht2y1 : (w2.heap.size = w1.heap.size) = False := eq_false (by omega)); clear hc2 hf2); (try go_wp2_with fail); refine tr hK (fun hHeld => ?_); clear hK K)
      refine tq 7 hHeld ?_
      refine tq 8 hHeld ?_
      refine tq 9 hHeld ?_
      (refine tc 11 fun K hK => ?_; go_simp; refine tr hK (fun hHeld => ?_); clear hK K)
      refine tq 12 hHeld ?_
      refine wpAnyH_done (by kernel_rfl) ?_ _
      go_wp2_with fail
      exact bodyPost_ret (v := .tuple #[s3 0 0 0, .bool false]) (by simp [results, Try.results64, go_sem, *]) rfl ⟨rfl, by repeat (first | with_reducible apply Below.refl | (with_reducible apply Below.setCell; rotate_left; focus (first | omega | (simp; done) | (simp; omega))) | (with_reducible apply Below.alloc; rotate_left; focus (first | omega | (simp; done) | (simp; omega))) | with_reducible apply Below.drew | with_reducible apply belowDrewN | (with_reducible apply Below.trans; rotate_left; with_reducible apply Below.mono; with_reducible assumption; focus (first | omega | (simp; done) | (simp; omega))))⟩
end Go.Proofs.Ytpoichpdkkejjaa
namespace Go.Proofs.Ytpoichpdkkejjaa
open Go.RowKit
set_option linter.unusedVariables false
set_option linter.unusedSimpArgs false

def tcT (k1 g1 h1 x y k2 g2 h2 u v : Int) : (Int × Int × Int) × Bool :=
  if k1 = 1 then (if k2 = 1 then rdT (u - x) (v - y) (g1 + g2) else tnT (mxT (u - g2) (v - h2) (u + g2) (v + h2) x y g1))
  else (if k2 = 1 then mxT (x - g1) (y - h1) (x + g1) (y + h1) u v g2 else bxT (x - g1) (y - h1) (x + g1) (y + h1) (u - g2) (v - h2) (u + g2) (v + h2))
def toT (k1 g1 h1 x y k2 g2 h2 u v : Int) : (Int × Int × Int) × Bool := if (shB k1 g1 h1 && (shB k2 g2 h2 && (inB 2560000 x y && inB 2560000 u v))) = true then tcT k1 g1 h1 x y k2 g2 h2 u v else ((0, 0, 0), false)
theorem sShapeOk_z (k g h : Int) (b : Bool) (w : World) (e : shB k g h = b) : Calls Try.prog 24 #[s3 k g h] w fun e w' => e = .returned (.bool b) ∧ Below w.heap.size w w' := by
  subst e; exact sShapeOk_any k g h w
theorem l3Place_z (x y : Int) (b : Bool) (w : World) (e : inB 2560000 x y = b) : Calls Try.prog 25 #[vv x y] w fun e w' => e = .returned (.bool b) ∧ Below w.heap.size w w' := by
  subst e; exact l3Place_any x y w
theorem shB_kinds {k g h : Int} (e : shB k g h = true) : (k = 1 ∧ h = 0 ∧ 1 ≤ g ∧ g ≤ 25600) ∨ (k = 2 ∧ 1 ≤ g ∧ g ≤ 25600 ∧ 1 ≤ h ∧ h ≤ 25600) := by
  unfold shB rdB bxB at e; simp only [Bool.or_eq_true, decide_eq_true_eq] at e; omega
end Go.Proofs.Ytpoichpdkkejjaa
namespace Go.Proofs.Ytpoichpdkkejjaa
open Go.RowKit
set_option linter.unusedVariables false
set_option linter.unusedSimpArgs false
/-- how the bodies of rows i and k touch -/
def tcH (C : Nat → Nat → Int) (i k : Nat) : (Int × Int × Int) × Bool := toT (C 1 i) (C 2 i) (C 3 i) (C 4 i) (C 5 i) (C 1 k) (C 2 k) (C 3 k) (C 4 k) (C 5 k)
def conB (C : Nat → Nat → Int) (i k : Nat) : Bool := decide (i < k) && (!(decide (C 8 i = 0) && decide (C 8 k = 0)) && (tcH C i k).2)
def conOne (C : Nat → Nat → Int) (i k : Nat) : List Int := if conB C i k = true then [(i : Int), (k : Int), (tcH C i k).1.1, (tcH C i k).1.2.1, (tcH C i k).1.2.2] else []
def conIn (C : Nat → Nat → Int) (i : Nat) : Nat → List Int
  | 0 => []
  | k + 1 => conIn C i k ++ conOne C i k
def conOut (C : Nat → Nat → Int) (n : Nat) : Nat → List Int
  | 0 => []
  | i + 1 => conOut C n i ++ conIn C i n
/-- all contacts of n bodies -/
def conL (C : Nat → Nat → Int) (n : Nat) : List Int := conOut C n n
theorem conOne_len (C : Nat → Nat → Int) (i k : Nat) : ∃ m, (conOne C i k).length = m * 5 ∧ m ≤ 1 := by
  unfold conOne
  split
  · exact ⟨1, rfl, Nat.le_refl _⟩
  · exact ⟨0, rfl, by omega⟩
theorem conIn_len (C : Nat → Nat → Int) (i : Nat) : ∀ k, ∃ m, (conIn C i k).length = m * 5 ∧ m ≤ k
  | 0 => ⟨0, rfl, Nat.le_refl _⟩
  | k + 1 => by
    obtain ⟨m, h1, h2⟩ := conIn_len C i k
    obtain ⟨m', h3, h4⟩ := conOne_len C i k
    exact ⟨m + m', by rw [conIn, List.length_append, h1, h3]; omega, by omega⟩
theorem conOut_len (C : Nat → Nat → Int) (n : Nat) : ∀ i, ∃ m, (conOut C n i).length = m * 5 ∧ m ≤ i * n
  | 0 => ⟨0, rfl, by omega⟩
  | i + 1 => by
    obtain ⟨m, h1, h2⟩ := conOut_len C n i
    obtain ⟨m', h3, h4⟩ := conIn_len C i n
    exact ⟨m + m', by rw [conOut, List.length_append, h1, h3]; omega, by rw [Nat.succ_mul]; omega⟩
theorem conB_ge {C : Nat → Nat → Int} {i k : Nat} (h : k ≤ i) : conB C i k = false := by
  unfold conB
  rw [decide_eq_false (by omega)]
  rfl
theorem conOne_no {C : Nat → Nat → Int} {i k : Nat} (h : conB C i k = false) : conOne C i k = [] := by
  unfold conOne
  rw [h]
  rfl
theorem conOne_yes {C : Nat → Nat → Int} {i k : Nat} {X Y D : Int} (h : conB C i k = true) (e : tcH C i k = ((X, Y, D), true)) : conOne C i k = [(i : Int), (k : Int), X, Y, D] := by
  unfold conOne
  rw [if_pos h, e]
theorem conB_yes {C : Nat → Nat → Int} {i k : Nat} {X Y D : Int} (h : i < k) (hf : ¬ (C 8 i = 0 ∧ C 8 k = 0)) (e : tcH C i k = ((X, Y, D), true)) : conB C i k = true := by
  unfold conB
  rw [e, decide_eq_true h]
  by_cases e1 : C 8 i = 0
  · have e2 : ¬ C 8 k = 0 := fun q => hf ⟨e1, q⟩
    simp [e2]
  · simp [e1]
/-- nothing touches one that does not stand behind -/
theorem conIn_ge {C : Nat → Nat → Int} (i : Nat) : ∀ k, k ≤ i + 1 → conIn C i k = []
  | 0, _ => rfl
  | k + 1, h => by rw [conIn, conIn_ge i k (by omega), conOne_no (conB_ge (by omega))]; rfl
/-- a list of things of k numbers, in a variable at lb; nothing else has changed since w2 -/
structure LsAt (w2 W : World) (lb t k : Nat) (a : Option Addr) (m c : Nat) (l : List Int) : Prop where
  fr : Fr (fun b => b = lb) w2 W
  box : W.cell? ⟨lb, 0, none⟩ = some (.slice a m c)
  nf : W.frozen? ⟨lb, 0, none⟩ = false
  len : l.length = m * k
  own : OwnL W w2.heap.size t k (.slice a m c) m (ofL l)
theorem Fr.sm {X : Nat → Prop} {w2 W W' : World} {B : Nat} (h : Fr X w2 W) (hs : Sm B W W') (hB : w2.heap.size ≤ B) : Fr X w2 W' :=
  ⟨hs.below.os.trans h.os, hs.below.tape.trans h.tape, hs.below.output.trans h.output, Nat.le_trans h.size hs.size, fun k hk hn => (hs.below.block k (by omega)).trans (h.block k hk hn), fun k o hk ho => (hs.below.block k (by have := (Array.getElem?_eq_some_iff.1 hk).1; omega)).trans (h.kind k o hk ho)⟩
theorem LsAt.sm {w2 W W' : World} {B lb t k m c : Nat} {a : Option Addr} {l : List Int} (h : LsAt w2 W lb t k a m c l) (hs : Sm B W W') (hB : w2.heap.size ≤ B) : LsAt w2 W' lb t k a m c l :=
  ⟨h.fr.sm hs hB, hs.cell h.box, hs.frozen h.box h.nf, h.len, h.own.sm hs⟩
theorem LsAt.below {w2 W W' : World} {lb t k m c : Nat} {a : Option Addr} {l : List Int} (h : LsAt w2 W lb t k a m c l) (hs : Below W.heap.size W W') : LsAt w2 W' lb t k a m c l := h.sm (Sm.of_below hs (Nat.le_refl _)) h.fr.size
theorem LsAt.start {w2 : World} {lb t k : Nat} (h : w2.cell? ⟨lb, 0, none⟩ = some (.slice none 0 0)) (hf : w2.frozen? ⟨lb, 0, none⟩ = false) : LsAt w2 w2 lb t k none 0 0 [] :=
  ⟨Fr.refl _ _, h, hf, by simp, OwnL.nil _ _ _ _ _⟩
/-- the list, and what lies below the variable's world -/
theorem LsAt.keeps {w2 W W1 : World} {lb t k m c m' c' : Nat} {a a' : Option Addr} {l : List Int} (h : LsAt w2 W lb t k a m c l) (hlb : lb < w2.heap.size) (hg : W.grownBy W1 (Value.slice a m c).ownBlock) :
    Fr (fun b => b = lb ∨ (Value.slice a m c).ownBlock = some b) W (W1.setCell ⟨lb, 0, none⟩ (.slice a' m' c')) :=
  (Fr.grown hg (fun b hb => .inr hb) h.own.isCells).trans (Fr.setCell (.inl rfl) _)
theorem LsAt.push {w2 W W1 : World} {lb t k m c : Nat} {a a' : Option Addr} {c' : Nat} {l x : List Int} (h : LsAt w2 W lb t k a m c l) (hlb : lb < w2.heap.size) (hx : x.length = k) (hg : W.grownBy W1 (Value.slice a m c).ownBlock)
    (ho : OwnL W1 w2.heap.size t k (.slice a' (m + 1) c') (m + 1) (cat (m * k) (ofL l) (ofL x))) : LsAt w2 (W1.setCell ⟨lb, 0, none⟩ (.slice a' (m + 1) c')) lb t k a' (m + 1) c' (l ++ x) := by
  have hne : ∀ b, (Value.slice a m c).ownBlock = some b → b ≠ lb := fun b hb => by have := (h.own.lt b hb).1; omega
  have hl : lb < W.heap.size := Nat.lt_of_lt_of_le hlb h.fr.size
  have hb1 : W1.heap[lb]? = W.heap[lb]? := hg.block lb hl (fun e => hne lb e.symm rfl)
  refine ⟨(h.fr.trans' (Fr.grown (X := fun b => (Value.slice a m c).ownBlock = some b) hg (fun b hb => hb) h.own.isCells) (fun i hi e => by have := (h.own.lt i e).1; omega)).trans (Fr.setCell (X := fun b => b = lb) rfl _), cset_same ((World.cell?_of_block (a := ⟨lb, 0, none⟩) hb1).trans h.box), ?_, by rw [List.length_append, h.len, hx, Nat.succ_mul], ?_⟩
  · rw [World.frozen?_setCell]; exact (World.frozen?_of_block (a := ⟨lb, 0, none⟩) hb1).trans h.nf
  · rw [← cat_ofL, h.len]
    refine OwnL.frame (X := fun b => b = lb) ho (Fr.setCell (X := fun b => b = lb) rfl _) (fun b hb e => ?_)
    have := (ho.lt b hb).1
    omega
theorem _root_.Go.KeepsFrom.sm {B B' : Nat} {W X X' : World} (h : KeepsFrom B W X) (hs : Sm B' X X') (hB : W.heap.size ≤ B') : KeepsFrom B W X' :=
  ⟨Nat.le_trans h.size hs.size, fun k o hk h0 ho => (hs.below.block k (by have := (Array.getElem?_eq_some_iff.1 h0).1; omega)).trans (h.same k o hk h0 ho)⟩
end Go.Proofs.Ytpoichpdkkejjaa
namespace Go.Proofs.Ytpoichpdkkejjaa
open Go.RowKit
set_option linter.unusedVariables false
set_option linter.unusedSimpArgs false
structure Hide (p : Prop) : Prop where
  out : p
theorem tdiv_le {x B m : Int} (hm : 0 < m) (hB : 0 ≤ B) (h : -(B * m) ≤ x ∧ x ≤ B * m) : -B ≤ x.tdiv m ∧ x.tdiv m ≤ B := by
  by_cases h0 : 0 ≤ x
  · rw [Int.tdiv_eq_ediv_of_nonneg h0]
    have q1 := Int.ediv_nonneg h0 (Int.le_of_lt hm)
    exact ⟨by omega, Int.ediv_le_of_le_mul hm h.2⟩
  · have e : x.tdiv m = -((-x) / m) := by rw [← Int.tdiv_eq_ediv_of_nonneg (show 0 ≤ -x by omega), Int.neg_tdiv, Int.neg_neg]
    rw [e]
    have q1 := Int.ediv_nonneg (show 0 ≤ -x by omega) (Int.le_of_lt hm)
    have q2 := Int.ediv_le_of_le_mul hm (show -x ≤ B * m by omega)
    omega
/-- what a body takes of a way apart -/
def shareV (V W : Nat → Int) (n : Int) : Int := bif decide (V 8 = 0) then 0 else bif decide (W 8 = 0) then n else (n * W 8).tdiv (V 8 + W 8)
theorem share_bd {V W : Nat → Int} {n : Int} (h0 : 0 ≤ V 8) (h1 : 0 ≤ W 8) (hn : 0 ≤ n) : 0 ≤ shareV V W n ∧ shareV V W n ≤ n := by
  unfold shareV
  by_cases m0 : V 8 = 0
  · rw [decide_eq_true m0]; exact ⟨Int.le_refl _, hn⟩
  · rw [decide_eq_false m0]
    by_cases m1 : W 8 = 0
    · rw [decide_eq_true m1]; exact ⟨hn, Int.le_refl _⟩
    · rw [decide_eq_false m1]
      show 0 ≤ (n * W 8).tdiv (V 8 + W 8) ∧ (n * W 8).tdiv (V 8 + W 8) ≤ n
      have p0 : 0 ≤ n * W 8 := Int.mul_nonneg hn h1
      rw [Int.tdiv_eq_ediv_of_nonneg p0]
      refine ⟨Int.ediv_nonneg p0 (by omega), ?_⟩
      refine Int.ediv_le_of_le_mul (by omega) ?_
      exact Int.mul_le_mul_of_nonneg_left (by omega) hn
set_option maxRecDepth 20000 in
set_option maxHeartbeats 8000000 in
theorem l8Share_q (V W : Nat → Int) (n x : Int) (w : World) (h0 : 0 ≤ V 8 ∧ V 8 ≤ 1000) (h1 : 0 ≤ W 8 ∧ W 8 ≤ 1000) (hn : -30000 ≤ n ∧ n ≤ 30000) (ex : shareV V W n = x) :
    Calls Try.prog 81 #[bodyW V, bodyW W, .int .i64 n] w fun e w' => e = .returned (.int .i64 x) ∧ Below w.heap.size w w' := by
  have hset := cset_map
  have p := mul_bd (a := n) (b := W 8) (A := 30000) (B := 1000) (by omega) (by omega)
  have q := tdiv_bd (x := n * W 8) (B := 30000000) (V 8 + W 8) (by omega)
  have w1 : IntKind.i64.wrap (n * W 8) = n * W 8 := i64w (by omega)
  have w2 : IntKind.i64.wrap (V 8 + W 8) = V 8 + W 8 := i64w (by omega)
  have w3 : IntKind.i64.wrap ((n * W 8).tdiv (V 8 + W 8)) = (n * W 8).tdiv (V 8 + W 8) := i64w (by omega)
  by_cases m0 : V 8 = 0
  · have ex' : x = 0 := by rw [← ex]; unfold shareV; rw [decide_eq_true m0]; rfl
    subst ex'
    have e1 : (V 8 == 0) = true := by simp [m0]
    have M0 : Shut (V 8 = 0) := m0
    clear m0 ex
    go_enter Try.func81, Try.ntmps81
    go_wp2_with fail
    go_ret
    exact ⟨rfl, by repeat (first | with_reducible apply Below.refl | (with_reducible apply Below.setCell; rotate_left; focus (first | omega | (simp; done) | (simp; omega))) | (with_reducible apply Below.alloc; rotate_left; focus (first | omega | (simp; done) | (simp; omega))) | with_reducible apply Below.drew | with_reducible apply belowDrewN | (with_reducible apply Below.trans; rotate_left; with_reducible apply Below.mono; with_reducible assumption; focus (first | omega | (simp; done) | (simp; omega))))⟩
  · have e1 : (V 8 == 0) = false := by simp [m0]
    by_cases m1 : W 8 = 0
    · have ex' : x = n := by rw [← ex]; unfold shareV; rw [decide_eq_false m0, decide_eq_true m1]; rfl
      subst ex'
      have e2 : (W 8 == 0) = true := by simp [m1]
      have M1 : Shut (W 8 = 0) := m1
      clear m1 ex w1 w2 w3 p q
      go_enter Try.func81, Try.ntmps81
      go_wp2_with fail
      go_ret
      exact ⟨rfl, by repeat (first | with_reducible apply Below.refl | (with_reducible apply Below.setCell; rotate_left; focus (first | omega | (simp; done) | (simp; omega))) | (with_reducible apply Below.alloc; rotate_left; focus (first | omega | (simp; done) | (simp; omega))) | with_reducible apply Below.drew | with_reducible apply belowDrewN | (with_reducible apply Below.trans; rotate_left; with_reducible apply Below.mono; with_reducible assumption; focus (first | omega | (simp; done) | (simp; omega))))⟩
    · have ex' : (n * W 8).tdiv (V 8 + W 8) = x := by rw [← ex]; unfold shareV; rw [decide_eq_false m0, decide_eq_false m1]; rfl
      have e2 : (W 8 == 0) = false := by simp [m1]
      have e3 : ¬ V 8 + W 8 = 0 := by omega
      clear ex
      go_enter Try.func81, Try.ntmps81
      go_wp2_with fail
      go_ret
      exact ⟨by first | rfl | (rw [← ex']) | simp [ex'], by repeat (first | with_reducible apply Below.refl | (with_reducible apply Below.setCell; rotate_left; focus (first | omega | (simp; done) | (simp; omega))) | (with_reducible apply Below.alloc; rotate_left; focus (first | omega | (simp; done) | (simp; omega))) | with_reducible apply Below.drew | with_reducible apply belowDrewN | (with_reducible apply Below.trans; rotate_left; with_reducible apply Below.mono; with_reducible assumption; focus (first | omega | (simp; done) | (simp; omega))))⟩
/-- two bodies of a list moved apart -/
def apartU (U : Nat → Int) (A B : Nat) (X Y D : Int) : Nat → Int :=
  bif decide (0 < (D - 64).tdiv 4) then
    (let U1 := bif decide (0 < U (A * 12 + 8)) then putRow U A (moveV (fun j => U (A * 12 + j)) ((-X * shareV (fun j => U (A * 12 + j)) (fun j => U (B * 12 + j)) ((D - 64).tdiv 4)).tdiv 256) ((-Y * shareV (fun j => U (A * 12 + j)) (fun j => U (B * 12 + j)) ((D - 64).tdiv 4)).tdiv 256)) else U
     bif decide (0 < U (B * 12 + 8)) then putRow U1 B (moveV (fun j => U (B * 12 + j)) ((X * shareV (fun j => U (B * 12 + j)) (fun j => U (A * 12 + j)) ((D - 64).tdiv 4)).tdiv 256) ((Y * shareV (fun j => U (B * 12 + j)) (fun j => U (A * 12 + j)) ((D - 64).tdiv 4)).tdiv 256)) else U1)
  else U
structure Ap8 (w wc : World) (A B : Nat) (X Y D : Int) (ba bb : Nat) (VA VB : Nat → Int) : Prop where
  k0 : wc.cell? ⟨w.heap.size, 0, none⟩ = some (.int .i64 (A : Int))
  k1 : wc.cell? ⟨w.heap.size, 1, none⟩ = some (.int .i64 (B : Int))
  k2 : wc.cell? ⟨w.heap.size, 2, none⟩ = some (.int .i64 X)
  k3 : wc.cell? ⟨w.heap.size, 3, none⟩ = some (.int .i64 Y)
  k4 : wc.cell? ⟨w.heap.size, 4, none⟩ = some (.int .i64 D)
  ca : ∀ j, j < 12 → wc.cell? ⟨ba, j, none⟩ = some (.int .i64 (VA j))
  cb : ∀ j, j < 12 → wc.cell? ⟨bb, j, none⟩ = some (.int .i64 (VB j))
  l0 : w.heap.size < wc.heap.size
  la : ba < wc.heap.size
  lb : bb < wc.heap.size
  ga : w.heap.size < ba
  gb : w.heap.size < bb
theorem Ap8.on {w wc w' : World} {A B : Nat} {X Y D : Int} {ba bb : Nat} {VA VB : Nat → Int} (h : Ap8 w wc A B X Y D ba bb VA VB) (hb : Below wc.heap.size wc w') : Ap8 w w' A B X Y D ba bb VA VB :=
  have k := fun j => hb.cell (p := ⟨w.heap.size, j, none⟩) h.l0
  ⟨(k 0).trans h.k0, (k 1).trans h.k1, (k 2).trans h.k2, (k 3).trans h.k3, (k 4).trans h.k4, fun j hj => (hb.cell (p := ⟨ba, j, none⟩) h.la).trans (h.ca j hj), fun j hj => (hb.cell (p := ⟨bb, j, none⟩) h.lb).trans (h.cb j hj), Nat.lt_of_lt_of_le h.l0 hb.size, Nat.lt_of_lt_of_le h.la hb.size, Nat.lt_of_lt_of_le h.lb hb.size, h.ga, h.gb⟩
theorem Ap8.fr {w wc w' : World} {A B g : Nat} {X Y D : Int} {ba bb : Nat} {VA VB : Nat → Int} (h : Ap8 w wc A B X Y D ba bb VA VB) (hs : Fr (fun b => b = g) wc w') (hg : g < w.heap.size) : Ap8 w w' A B X Y D ba bb VA VB := by
  have ga := h.ga
  have gb := h.gb
  have k := fun j => hs.cell (p := ⟨w.heap.size, j, none⟩) h.l0 (by simp; omega)
  exact ⟨(k 0).trans h.k0, (k 1).trans h.k1, (k 2).trans h.k2, (k 3).trans h.k3, (k 4).trans h.k4, fun j hj => (hs.cell (p := ⟨ba, j, none⟩) h.la (by simp; omega)).trans (h.ca j hj), fun j hj => (hs.cell (p := ⟨bb, j, none⟩) h.lb (by simp; omega)).trans (h.cb j hj), Nat.lt_of_lt_of_le h.l0 hs.size, Nat.lt_of_lt_of_le h.la hs.size, Nat.lt_of_lt_of_le h.lb hs.size, h.ga, h.gb⟩
end Go.Proofs.Ytpoichpdkkejjaa
namespace Go.Proofs.Ytpoichpdkkejjaa
open Go.RowKit
set_option linter.unusedVariables false
set_option linter.unusedSimpArgs false
theorem moveV_0 (V : Nat → Int) (p q : Int) : moveV V p q 0 = V 0 := rfl
theorem moveV_8 (V : Nat → Int) (p q : Int) : moveV V p q 8 = V 8 := rfl
theorem putRow_8 {U V : Nat → Int} {k i : Nat} (h : V 8 = U (k * 12 + 8)) : putRow U k V (i * 12 + 8) = U (i * 12 + 8) := by
  unfold putRow
  by_cases e : i = k
  · subst e; rw [if_pos (by omega), Nat.add_sub_cancel_left]; exact h
  · rw [if_neg (by omega)]
theorem putRow_else {U V : Nat → Int} {k i j : Nat} (e : i ≠ k) (hj : j < 12) : putRow U k V (i * 12 + j) = U (i * 12 + j) := by unfold putRow; rw [if_neg (by omega)]
theorem Bods.apart {n : Nat} {U : Nat → Int} (h : Bods n U) {A B : Nat} (hA : A < n) (hB : B < n) (hAB : A ≠ B) (X Y D : Int) : Bods n (apartU U A B X Y D) ∧ ∀ i, apartU U A B X Y D (i * 12 + 8) = U (i * 12 + 8) := by
  unfold apartU
  cases decide (0 < (D - 64).tdiv 4) with
  | false => exact ⟨h, fun i => rfl⟩
  | true =>
    simp only [cond_true]
    generalize (-X * shareV (fun j => U (A * 12 + j)) (fun j => U (B * 12 + j)) ((D - 64).tdiv 4)).tdiv 256 = p
    generalize (-Y * shareV (fun j => U (A * 12 + j)) (fun j => U (B * 12 + j)) ((D - 64).tdiv 4)).tdiv 256 = q
    generalize (X * shareV (fun j => U (B * 12 + j)) (fun j => U (A * 12 + j)) ((D - 64).tdiv 4)).tdiv 256 = r
    generalize (Y * shareV (fun j => U (B * 12 + j)) (fun j => U (A * 12 + j)) ((D - 64).tdiv 4)).tdiv 256 = s
    have key : ∀ U1 : Nat → Int, Bods n U1 → (∀ i, U1 (i * 12 + 8) = U (i * 12 + 8)) → (U1 (B * 12) = U (B * 12)) → Bods n (bif decide (0 < U (B * 12 + 8)) then putRow U1 B (moveV (fun j => U (B * 12 + j)) r s) else U1) ∧ ∀ i, (bif decide (0 < U (B * 12 + 8)) then putRow U1 B (moveV (fun j => U (B * 12 + j)) r s) else U1) (i * 12 + 8) = U (i * 12 + 8) := by
      intro U1 h1 h8 h0
      by_cases m : 0 < U (B * 12 + 8)
      · rw [decide_eq_true m]
        exact ⟨h1.put hB (move_ok r s (h.row hB) (by show U (B * 12 + 8) ≠ 0; omega)) (by rw [moveV_0, h0]; rfl), fun i => (putRow_8 (by rw [moveV_8, h8])).trans (h8 i)⟩
      · rw [decide_eq_false m]; exact ⟨h1, h8⟩
    by_cases m : 0 < U (A * 12 + 8)
    · rw [decide_eq_true m]
      refine key _ (h.put hA (move_ok p q (h.row hA) (by show U (A * 12 + 8) ≠ 0; omega)) (by rw [moveV_0]; rfl)) (fun i => putRow_8 (by rw [moveV_8])) ?_
      have := putRow_else (U := U) (V := moveV (fun j => U (A * 12 + j)) p q) (k := A) (i := B) (j := 0) (fun e => hAB e.symm) (by omega)
      simpa using this
    · rw [decide_eq_false m]; exact key U h (fun i => rfl) rfl
def apartN (C U : Nat → Int) : Nat → Nat → Int
  | 0 => U
  | k + 1 => apartU (apartN C U k) (C (k * 5)).toNat (C (k * 5 + 1)).toNat (C (k * 5 + 2)) (C (k * 5 + 3)) (C (k * 5 + 4))
/-- contacts that are ok: places of bodies, two different ones; the hit within limits -/
structure CtOk (n m : Nat) (C : Nat → Int) : Prop where
  a : ∀ k, k < m → 0 ≤ C (k * 5) ∧ C (k * 5) < (n : Int)
  b : ∀ k, k < m → 0 ≤ C (k * 5 + 1) ∧ C (k * 5 + 1) < (n : Int)
  ne : ∀ k, k < m → C (k * 5) ≠ C (k * 5 + 1)
  x : ∀ k, k < m → -256 ≤ C (k * 5 + 2) ∧ C (k * 5 + 2) ≤ 256
  y : ∀ k, k < m → -256 ≤ C (k * 5 + 3) ∧ C (k * 5 + 3) ≤ 256
  d : ∀ k, k < m → 0 ≤ C (k * 5 + 4) ∧ C (k * 5 + 4) ≤ 102400
theorem Bods.aparts {n m : Nat} {U C : Nat → Int} (h : Bods n U) (hC : CtOk n m C) : ∀ k, k ≤ m → Bods n (apartN C U k) ∧ ∀ i, apartN C U k (i * 12 + 8) = U (i * 12 + 8)
  | 0, _ => ⟨h, fun i => rfl⟩
  | k + 1, hk => by
    obtain ⟨h1, h2⟩ := Bods.aparts h hC k (by omega)
    have ha := hC.a k (by omega)
    have hb := hC.b k (by omega)
    have hn := hC.ne k (by omega)
    obtain ⟨q1, q2⟩ := h1.apart (A := (C (k * 5)).toNat) (B := (C (k * 5 + 1)).toNat) (by omega) (by omega) (by omega) (C (k * 5 + 2)) (C (k * 5 + 3)) (C (k * 5 + 4))
    exact ⟨q1, fun i => (q2 i).trans (h2 i)⟩
end Go.Proofs.Ytpoichpdkkejjaa
namespace Go.Proofs.Ytpoichpdkkejjaa
open Go.RowKit
set_option linter.unusedVariables false
set_option linter.unusedSimpArgs false
theorem sqn (a : Int) : 0 ≤ a * a := by
  rcases Int.le_total 0 a with h | h
  · exact Int.mul_nonneg h h
  · have := Int.mul_nonneg (show 0 ≤ -a by omega) (show 0 ≤ -a by omega); rwa [Int.neg_mul_neg] at this
theorem abs_le_of_sq {a b : Int} (hb : 0 ≤ b) (h : a * a < (b + 1) * (b + 1)) : -b ≤ a ∧ a ≤ b := by
  have k : ∀ x : Int, x * x < (b + 1) * (b + 1) → x ≤ b := fun x hx => by
    by_cases l : b < x
    · have := Int.mul_le_mul (show b + 1 ≤ x by omega) (show b + 1 ≤ x by omega) (by omega) (by omega)
      omega
    · omega
  have k1 := k a h
  have k2 := k (-a) (by rw [Int.neg_mul_neg]; exact h)
  omega
theorem vl_ge {x y : Int} (hx : -10000000 ≤ x ∧ x ≤ 10000000) (hy : -10000000 ≤ y ∧ y ≤ 10000000) : 0 ≤ vl x y ∧ (-vl x y ≤ x ∧ x ≤ vl x y) ∧ (-vl x y ≤ y ∧ y ≤ vl x y) := by
  have h0 : 0 ≤ x * x + y * y := by have := sqn x; have := sqn y; omega
  have b1 := mul_bd (a := x) (b := x) (A := 10000000) (B := 10000000) (by omega) (by omega)
  have b2 := mul_bd (a := y) (b := y) (A := 10000000) (B := 10000000) (by omega) (by omega)
  obtain ⟨a, b, c⟩ := rootZ_is h0
  have hle := rootZ_le (n := x * x + y * y) (B := 99999999) (by omega) (by omega)
  have e : vl x y = rootZ (x * x + y * y) := by unfold vl clampZ; repeat' split <;> omega
  rw [e]
  have := sqn x
  have := sqn y
  exact ⟨a, abs_le_of_sq a (by omega), abs_le_of_sq a (by omega)⟩
theorem unit_bd {x y : Int} (hx : -10000000 ≤ x ∧ x ≤ 10000000) (hy : -10000000 ≤ y ∧ y ≤ 10000000) : (-256 ≤ ux x y ∧ ux x y ≤ 256) ∧ (-256 ≤ uy x y ∧ uy x y ≤ 256) := by
  obtain ⟨h0, hX, hY⟩ := vl_ge hx hy
  unfold ux uy
  by_cases z : vl x y = 0
  · rw [if_pos z, if_pos z]; omega
  · rw [if_neg z, if_neg z]
    exact ⟨tdiv_le (by omega) (by omega) (by omega), tdiv_le (by omega) (by omega) (by omega)⟩
/-- a hit that is ok -/
def HitOk (X Y D : Int) : Prop := (-256 ≤ X ∧ X ≤ 256) ∧ (-256 ≤ Y ∧ Y ≤ 256) ∧ (0 ≤ D ∧ D ≤ 102400)
theorem rd_ok {dx dy g X Y D : Int} (hx : -10000000 ≤ dx ∧ dx ≤ 10000000) (hy : -10000000 ≤ dy ∧ dy ≤ 10000000) (hg : 0 ≤ g ∧ g ≤ 51200) (e : rdT dx dy g = ((X, Y, D), true)) : HitOk X Y D ∧ D ≤ g := by
  unfold rdT at e
  split at e
  · rename_i h
    simp only [Prod.mk.injEq, and_true] at e
    obtain ⟨rfl, rfl, rfl⟩ := e
    obtain ⟨u1, u2⟩ := unit_bd hx hy
    obtain ⟨v0, _, _⟩ := vl_ge hx hy
    have b1 := mul_bd (a := dx) (b := dx) (A := 10000000) (B := 10000000) (by omega) (by omega)
    have b2 := mul_bd (a := dy) (b := dy) (A := 10000000) (B := 10000000) (by omega) (by omega)
    have h0 : 0 ≤ dx * dx + dy * dy := by have := sqn dx; have := sqn dy; omega
    obtain ⟨a, b, c⟩ := rootZ_is h0
    have hle := rootZ_le (n := dx * dx + dy * dy) (B := 99999999) (by omega) (by omega)
    have e : vl dx dy = rootZ (dx * dx + dy * dy) := by unfold vl clampZ; repeat' split <;> omega
    have hv : vl dx dy ≤ g := by
      rw [e]
      have hs : rootZ (dx * dx + dy * dy) * rootZ (dx * dx + dy * dy) < (g + 1) * (g + 1) := by
        have : (g + 1) * (g + 1) = g * g + (2 * g + 1) := by simp only [Int.add_mul, Int.mul_add, Int.one_mul, Int.mul_one]; omega
        omega
      exact (abs_le_of_sq hg.1 hs).2
    exact ⟨⟨u1, u2, by omega, by omega⟩, by omega⟩
  · simp at e
theorem bs_ok {s0 s1 s2 s3 : Int} (h0 : 0 ≤ s0) (h1 : 0 ≤ s1) (h2 : 0 ≤ s2) (h3 : 0 ≤ s3) (hs : s0 + s1 ≤ 102400) :
    (-256 ≤ (bsT s0 s1 s2 s3).1 ∧ (bsT s0 s1 s2 s3).1 ≤ 256) ∧ (-256 ≤ (bsT s0 s1 s2 s3).2.1 ∧ (bsT s0 s1 s2 s3).2.1 ≤ 256) ∧ (0 ≤ (bsT s0 s1 s2 s3).2.2 ∧ 2 * (bsT s0 s1 s2 s3).2.2 ≤ s0 + s1) := by
  unfold bsT
  by_cases a : s1 < s0 <;> simp only [a, if_true, if_false]
  · by_cases b : s2 < s1 <;> simp only [b, if_true, if_false]
    · by_cases c : s3 < s2 <;> simp only [c, if_true, if_false] <;> omega
    · by_cases c : s3 < s1 <;> simp only [c, if_true, if_false] <;> omega
  · by_cases b : s2 < s0 <;> simp only [b, if_true, if_false]
    · by_cases c : s3 < s2 <;> simp only [c, if_true, if_false] <;> omega
    · by_cases c : s3 < s0 <;> simp only [c, if_true, if_false] <;> omega
theorem mx_ok {a b c d x y g X Y D : Int} (ha : -2600000 ≤ a ∧ a ≤ c ∧ c ≤ 2600000 ∧ c - a ≤ 51200) (hb : -2600000 ≤ b ∧ b ≤ d ∧ d ≤ 2600000) (hx : -2560000 ≤ x ∧ x ≤ 2560000) (hy : -2560000 ≤ y ∧ y ≤ 2560000) (hg : 0 ≤ g ∧ g ≤ 25600) (e : mxT a b c d x y g = ((X, Y, D), true)) : HitOk X Y D := by
  unfold mxT at e
  split at e
  · rename_i h
    unfold ptB at h
    simp only [decide_eq_true_eq] at h
    have f := bs_ok (s0 := c - x) (s1 := x - a) (s2 := d - y) (s3 := y - b) (by omega) (by omega) (by omega) (by omega) (by omega)
    simp only [Prod.mk.injEq, and_true] at e
    obtain ⟨rfl, rfl, rfl⟩ := e
    exact ⟨f.1, f.2.1, by omega, by omega⟩
  · have n1 : mn (mx x a) c ≤ c ∧ a ≤ mn (mx x a) c := by unfold mn mx; repeat' split <;> omega
    have n2 : mn (mx y b) d ≤ d ∧ b ≤ mn (mx y b) d := by unfold mn mx; repeat' split <;> omega
    exact (rd_ok (by omega) (by omega) (by omega) e).1
theorem tn_ok {m : (Int × Int × Int) × Bool} {X Y D : Int} (hm : ∀ x y d, m = ((x, y, d), true) → HitOk x y d) (e : tnT m = ((X, Y, D), true)) : HitOk X Y D := by
  obtain ⟨⟨x, y, d⟩, k⟩ := m
  unfold tnT at e
  dsimp only at e
  split at e
  · rename_i hk
    subst hk
    simp only [Prod.mk.injEq, and_true] at e
    obtain ⟨rfl, rfl, rfl⟩ := e
    obtain ⟨h1, h2, h3⟩ := hm x y d rfl
    exact ⟨by omega, by omega, h3⟩
  · simp at e
theorem bx_ok {a b c d r s t u X Y D : Int} (h1 : c - a ≤ 51200) (h2 : t - r ≤ 51200) (e : bxT a b c d r s t u = ((X, Y, D), true)) : HitOk X Y D := by
  unfold bxT at e
  split at e
  · rename_i h
    rw [Bool.and_eq_true] at h
    obtain ⟨l1, l2⟩ := h
    unfold leB at l1 l2
    simp only [decide_eq_true_eq] at l1 l2
    have f := bs_ok (s0 := c - r) (s1 := t - a) (s2 := d - s) (s3 := u - b) (by omega) (by omega) (by omega) (by omega) (by omega)
    simp only [Prod.mk.injEq, and_true] at e
    rw [e] at f
    exact ⟨f.1, f.2.1, by have := f.2.2; dsimp only at this; omega, by have := f.2.2; dsimp only at this; omega⟩
  · simp at e
theorem toT_ok {k g h x y m c d u v X Y D : Int} (e : toT k g h x y m c d u v = ((X, Y, D), true)) : HitOk X Y D := by
  unfold toT at e
  split at e
  · rename_i hz
    simp only [Bool.and_eq_true] at hz
    obtain ⟨s1, s2, p1, p2⟩ := hz
    obtain ⟨⟨x0, x1⟩, y0, y1⟩ := inB_of p1
    obtain ⟨⟨u0, u1⟩, v0, v1⟩ := inB_of p2
    rcases shB_kinds s1 with ⟨rfl, rfl, a0, a1⟩ | ⟨rfl, a0, a1, a2, a3⟩
    · rcases shB_kinds s2 with ⟨rfl, rfl, b0, b1⟩ | ⟨rfl, b0, b1, b2, b3⟩
      · have q1 : tcT 1 g 0 x y 1 c 0 u v = rdT (u - x) (v - y) (g + c) := by unfold tcT; simp
        rw [q1] at e
        exact (rd_ok (by omega) (by omega) (by omega) e).1
      · have q1 : tcT 1 g 0 x y 2 c d u v = tnT (mxT (u - c) (v - d) (u + c) (v + d) x y g) := by unfold tcT; simp
        rw [q1] at e
        exact tn_ok (fun x' y' d' e0 => mx_ok (by omega) (by omega) (by omega) (by omega) (by omega) e0) e
    · rcases shB_kinds s2 with ⟨rfl, rfl, b0, b1⟩ | ⟨rfl, b0, b1, b2, b3⟩
      · have q1 : tcT 2 g h x y 1 c 0 u v = mxT (x - g) (y - h) (x + g) (y + h) u v c := by unfold tcT; simp
        rw [q1] at e
        exact mx_ok (by omega) (by omega) (by omega) (by omega) (by omega) e
      · have q1 : tcT 2 g h x y 2 c d u v = bxT (x - g) (y - h) (x + g) (y + h) (u - c) (v - d) (u + c) (v + d) := by unfold tcT; simp
        rw [q1] at e
        exact bx_ok (by omega) (by omega) e
  · simp at e
/-- a list of fives, each with a property -/
def Fives (P : Int → Int → Int → Int → Int → Prop) (l : List Int) : Prop := ∃ m, l.length = m * 5 ∧ ∀ k, k < m → P (ofL l (k * 5)) (ofL l (k * 5 + 1)) (ofL l (k * 5 + 2)) (ofL l (k * 5 + 3)) (ofL l (k * 5 + 4))
theorem ofL_l {l r : List Int} {q : Nat} (h : q < l.length) : ofL (l ++ r) q = ofL l q := by
  unfold ofL; rw [List.getD_eq_getElem?_getD, List.getD_eq_getElem?_getD, List.getElem?_append_left h]
theorem ofL_r {l r : List Int} {q : Nat} (h : l.length ≤ q) : ofL (l ++ r) q = ofL r (q - l.length) := by
  unfold ofL; rw [List.getD_eq_getElem?_getD, List.getD_eq_getElem?_getD, List.getElem?_append_right h]
theorem Fives.nil (P : Int → Int → Int → Int → Int → Prop) : Fives P [] := ⟨0, rfl, fun k h => by omega⟩
theorem Fives.one {P : Int → Int → Int → Int → Int → Prop} {a b x y d : Int} (h : P a b x y d) : Fives P [a, b, x, y, d] := by
  refine ⟨1, rfl, fun k hk => ?_⟩
  obtain rfl : k = 0 := by omega
  exact h
theorem Fives.app {P : Int → Int → Int → Int → Int → Prop} {l r : List Int} (h1 : Fives P l) (h2 : Fives P r) : Fives P (l ++ r) := by
  obtain ⟨m, e1, p1⟩ := h1
  obtain ⟨m', e2, p2⟩ := h2
  refine ⟨m + m', by rw [List.length_append, e1, e2]; omega, fun k hk => ?_⟩
  by_cases c : k < m
  · rw [ofL_l (by omega), ofL_l (by omega), ofL_l (by omega), ofL_l (by omega), ofL_l (by omega)]
    exact p1 k c
  · rw [ofL_r (by omega), ofL_r (by omega), ofL_r (by omega), ofL_r (by omega), ofL_r (by omega), e1, show k * 5 - m * 5 = (k - m) * 5 by omega, show k * 5 + 1 - m * 5 = (k - m) * 5 + 1 by omega, show k * 5 + 2 - m * 5 = (k - m) * 5 + 2 by omega, show k * 5 + 3 - m * 5 = (k - m) * 5 + 3 by omega, show k * 5 + 4 - m * 5 = (k - m) * 5 + 4 by omega]
    exact p2 (k - m) (by omega)
/-- a contact that is ok, of n bodies -/
def CtP (n : Nat) (a b x y d : Int) : Prop := 0 ≤ a ∧ a < b ∧ b < (n : Int) ∧ HitOk x y d
theorem conOne_ok (C : Nat → Nat → Int) {n i k : Nat} (hk : k < n) : Fives (CtP n) (conOne C i k) := by
  unfold conOne
  split
  · rename_i h
    unfold conB at h
    simp only [Bool.and_eq_true, decide_eq_true_eq] at h
    have e : toT (C 1 i) (C 2 i) (C 3 i) (C 4 i) (C 5 i) (C 1 k) (C 2 k) (C 3 k) (C 4 k) (C 5 k) = (((tcH C i k).1.1, (tcH C i k).1.2.1, (tcH C i k).1.2.2), true) := by
      show tcH C i k = _
      rw [← h.2.2]
    exact Fives.one ⟨by omega, by omega, by omega, toT_ok e⟩
  · exact Fives.nil _
theorem conIn_ok (C : Nat → Nat → Int) {n i : Nat} : ∀ k, k ≤ n → Fives (CtP n) (conIn C i k)
  | 0, _ => Fives.nil _
  | k + 1, h => (conIn_ok C k (by omega)).app (conOne_ok C (by omega))
theorem conOut_ok (C : Nat → Nat → Int) {n : Nat} : ∀ i, Fives (CtP n) (conOut C n i)
  | 0 => Fives.nil _
  | i + 1 => (conOut_ok C i).app (conIn_ok C n (Nat.le_refl _))
theorem Fives.ct {n m : Nat} {l : List Int} (h : Fives (CtP n) l) (e : l.length = m * 5) : CtOk n m (ofL l) := by
  obtain ⟨m', e', p⟩ := h
  obtain rfl : m' = m := by omega
  exact ⟨fun k hk => ⟨(p k hk).1, by have := (p k hk).2; omega⟩, fun k hk => ⟨by have := p k hk; unfold CtP at this; omega, (p k hk).2.2.1⟩, fun k hk => by have := (p k hk).2.1; omega, fun k hk => (p k hk).2.2.2.1, fun k hk => (p k hk).2.2.2.2.1, fun k hk => (p k hk).2.2.2.2.2⟩
theorem con_ct (C : Nat → Nat → Int) {n m : Nat} (e : (conL C n).length = m * 5) : CtOk n m (ofL (conL C n)) := (conOut_ok C n).ct e
end Go.Proofs.Ytpoichpdkkejjaa
namespace Go.Proofs.Ytpoichpdkkejjaa
open Go.RowKit
set_option linter.unusedVariables false
set_option linter.unusedSimpArgs false
/-- a list that a function makes, in its own memory -/
structure LsV (w wr : World) (t k : Nat) (a : Option Addr) (m c : Nat) (l : List Int) : Prop where
  bel : Below w.heap.size w wr
  len : l.length = m * k
  own : OwnL wr w.heap.size t k (.slice a m c) m (ofL l)
theorem LsV.below {w wr w' : World} {t k m c : Nat} {a : Option Addr} {l : List Int} (h : LsV w wr t k a m c l) (hb : Below wr.heap.size wr w') : LsV w w' t k a m c l := ⟨h.bel.trans (hb.mono h.bel.size), h.len, h.own.below hb⟩
theorem LsV.push {w wr w1 : World} {t k m c c' : Nat} {a a' : Option Addr} {l x : List Int} (h : LsV w wr t k a m c l) (hx : x.length = k) (hg : wr.grownBy w1 (Value.slice a m c).ownBlock) (ho : OwnL w1 w.heap.size t k (.slice a' (m + 1) c') (m + 1) (cat (m * k) (ofL l) (ofL x))) : LsV w w1 t k a' (m + 1) c' (l ++ x) :=
  ⟨h.bel.grown hg h.bel.size (fun b e => (h.own.lt b e).1), by rw [List.length_append, h.len, hx, Nat.succ_mul], by rw [← cat_ofL, h.len]; exact ho⟩
theorem LsV.new (w : World) (t k : Nat) : LsV w (w.alloc (.cells #[] t)) t k (some ⟨w.heap.size, 0, none⟩) 0 0 [] :=
  ⟨(Below.refl _ _).alloc (Nat.le_refl _) _, by simp, ⟨by simp [numL], .inr ⟨w.heap.size, 0, #[], rfl, Nat.le_refl _, Go.Deep.blk_alloc_new _ _, Nat.le_refl _, Nat.zero_le _, by simp, by simp [numL]⟩⟩⟩
theorem LsV.newAt (w : World) (t k s : Nat) (e : w.heap.size = s) : LsV w (w.alloc (.cells #[] t)) t k (some ⟨s, 0, none⟩) 0 0 [] := by subst e; exact LsV.new w t k
theorem LsV.nil (w : World) (t k : Nat) : LsV w w t k none 0 0 [] := ⟨Below.refl _ _, by simp, OwnL.nil _ _ _ _ _⟩
theorem LsV.out {w0 w wr : World} {t k m c : Nat} {a : Option Addr} {l : List Int} (h : LsV w wr t k a m c l) (hb : Below w0.heap.size w0 w) : OutL w0 wr t k a m c (ofL l) := ⟨hb.trans (h.bel.mono hb.size), h.own.base hb.size⟩
theorem flat1 (w : World) (p : Int) (t : TypeId) : Flat (w.alloc (Obj.cells #[.int .i64 p] t)) (some ⟨w.heap.size, 0, none⟩) (1 * 1) (ofL [p]) := by
  intro _
  refine ⟨w.heap.size, 0, rfl, by simp, fun j hj => ?_⟩
  rw [Nat.zero_add]
  obtain rfl : j = 0 := by omega
  simp only [ofL]; go_simp; (try rfl)
end Go.Proofs.Ytpoichpdkkejjaa
namespace Go.Proofs.Ytpoichpdkkejjaa
open Go.RowKit
set_option linter.unusedVariables false
set_option linter.unusedSimpArgs false
/-- block b holds the k numbers of V, and may be written to -/
structure Nb (w : World) (b k : Nat) (V : Nat → Int) : Prop where
  c : ∀ j, j < k → w.cell? ⟨b, j, none⟩ = some (.int .i64 (V j))
  f : ∀ o, w.frozen? ⟨b, o, none⟩ = false
  l : b < w.heap.size
theorem Nb.on {w w' : World} {b k : Nat} {V : Nat → Int} (h : Nb w b k V) (hb : Below w.heap.size w w') : Nb w' b k V :=
  ⟨fun j hj => (hb.cell (p := ⟨b, j, none⟩) h.l).trans (h.c j hj), fun o => (hb.frozen (p := ⟨b, o, none⟩) h.l).trans (h.f o), Nat.lt_of_lt_of_le h.l hb.size⟩
theorem Nb.fr {w w' : World} {b k : Nat} {V : Nat → Int} {X : Nat → Prop} (h : Nb w b k V) (hs : Fr X w w') (hx : ¬ X b) : Nb w' b k V :=
  ⟨fun j hj => (hs.cell (p := ⟨b, j, none⟩) h.l hx).trans (h.c j hj), fun o => (hs.frozen (p := ⟨b, o, none⟩) h.l hx).trans (h.f o), Nat.lt_of_lt_of_le h.l hs.size⟩
theorem Nb.dr {w : World} {b k : Nat} {V : Nat → Int} (h : Nb w b k V) : Nb w.drew b k V := ⟨fun j hj => h.c j hj, fun o => h.f o, h.l⟩
theorem Nb.congr {w : World} {b k : Nat} {V W : Nat → Int} (h : Nb w b k V) (e : ∀ j, j < k → V j = W j) : Nb w b k W := ⟨fun j hj => by rw [← e j hj]; exact h.c j hj, h.f, h.l⟩
theorem Nb.set {w : World} {b k : Nat} {V : Nat → Int} (h : Nb w b k V) (j : Nat) (hj : j < k) (x : Int) : Nb (w.setCell ⟨b, j, none⟩ (.int .i64 x)) b k (fun i => if i = j then x else V i) := by
  have h1 := h.c j hj
  refine ⟨fun i hi => ?_, fun o => ?_, by simp; exact h.l⟩
  · by_cases e : i = j
    · subst e; rw [if_pos rfl]; exact World.cell?_setCell_same _ _ _ h1
    · rw [if_neg e, World.cell?_setCell_other _ _ _ _ (by intro h; simp only [Addr.mk.injEq] at h; omega)]; exact h.c i hi
  · have := h.f o; simp [this]
end Go.Proofs.Ytpoichpdkkejjaa
