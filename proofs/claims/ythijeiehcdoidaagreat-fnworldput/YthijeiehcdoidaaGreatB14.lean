/- Texts of a proof. -/
import Derived.Test.YthijeiehcdoidaaGreatB5
import Derived.Test.YthijeiehcdoidaaGreatB7
import Derived.Test.YthijeiehcdoidaaGreatB10
import Derived.Test.YthijeiehcdoidaaGreatB4
import Derived.Test.YthijeiehcdoidaaGreatB1
import Derived.Test.YthijeiehcdoidaaGreatB13
import Derived.Test.YthijeiehcdoidaaGreatB6
import Derived.Deep.RegionHeld3
import Derived.Deep.DeepCutAuto
import Derived.Test.YthijeiehcdoidaaGreatB3
import Derived.Test.YthijeiehcdoidaaGreatB12
set_option maxHeartbeats 16000000
set_option maxRecDepth 20000
namespace Go.Proofs.YthijeiehcdoidaaGreat
open Go.RowKit
set_option linter.unusedVariables false
set_option linter.unusedSimpArgs false
structure LsV (w wr : World) (t k : Nat) (a : Option Addr) (m c : Nat) (l : List Int) : Prop where
 bel : Below w.heap.size w wr
 len : l.length = m * k
 own : OwnL wr w.heap.size t k (.slice a m c) m (ofL l)
theorem LsV.below {w wr w' : World} {t k m c : Nat} {a : Option Addr} {l : List Int} (h : LsV w wr t k a m c l) (hb : Below wr.heap.size wr w') : LsV w w' t k a m c l := ⟨h.bel.trans (hb.mono h.bel.size), h.len, h.own.below hb⟩
theorem LsV.push {w wr w1 : World} {t k m c c' : Nat} {a a' : Option Addr} {l x : List Int} (h : LsV w wr t k a m c l) (hx : x.length = k) (hg : wr.grownBy w1 (Value.slice a m c).ownBlock) (ho : OwnL w1 w.heap.size t k (.slice a' (m + 1) c') (m + 1) (cat (m * k) (ofL l) (ofL x))) : LsV w w1 t k a' (m + 1) c' (l ++ x) :=
 ⟨h.bel.grown hg h.bel.size (fun b e => (h.own.lt b e).1), by rw [List.length_append, h.len, hx, Nat.succ_mul], by rw [← cat_ofL, h.len]; exact ho⟩
theorem LsV.new (w : World) (t k : Nat) : LsV w (w.alloc (.cells #[] t)) t k (some ⟨w.heap.size, 0, none⟩) 0 0 [] :=
 ⟨(Below.refl _ _).alloc (Nat.le_refl _) _, by simp, ⟨by simp [numL], .inr ⟨w.heap.size, 0, #[], rfl, Nat.le_refl _, Go.Deep.blk_alloc_new _ _, Nat.le_refl _, Nat.zero_le _, by simp, by simp [numL]⟩⟩⟩
theorem LsV.nil (w : World) (t k : Nat) : LsV w w t k none 0 0 [] := ⟨Below.refl _ _, by simp, OwnL.nil _ _ _ _ _⟩
theorem LsV.out {w0 w wr : World} {t k m c : Nat} {a : Option Addr} {l : List Int} (h : LsV w wr t k a m c l) (hb : Below w0.heap.size w0 w) : OutL w0 wr t k a m c (ofL l) := ⟨hb.trans (h.bel.mono hb.size), h.own.base hb.size⟩
theorem ux_bd2 {x y : Int} (hx : -6000000 ≤ x ∧ x ≤ 6000000) : -1600000000 ≤ ux x y ∧ ux x y ≤ 1600000000 := by
 unfold ux; split
 · omega
 · have := tdiv_bd (x := x * 256) (B := 1600000000) (vl x y) (by omega); exact this
theorem uy_bd2 {x y : Int} (hy : -6000000 ≤ y ∧ y ≤ 6000000) : -1600000000 ≤ uy x y ∧ uy x y ≤ 1600000000 := by
 unfold uy; split
 · omega
 · have := tdiv_bd (x := y * 256) (B := 1600000000) (vl x y) (by omega); exact this
theorem mxT_bd {a b c d x y g X Y D : Int} {K : Bool} (qa : -3000000 ≤ a ∧ a ≤ 3000000) (qb : -3000000 ≤ b ∧ b ≤ 3000000) (qc : -3000000 ≤ c ∧ c ≤ 3000000) (qd : -3000000 ≤ d ∧ d ≤ 3000000) (qx : -3000000 ≤ x ∧ x ≤ 3000000) (qy : -3000000 ≤ y ∧ y ≤ 3000000) (e : mxT a b c d x y g = ((X, Y, D), K)) :
 (-1600000000 ≤ X ∧ X ≤ 1600000000) ∧ (-1600000000 ≤ Y ∧ Y ≤ 1600000000) := by
 unfold mxT at e
 split at e
 · have hb := bsT_bd (s0 := c - x) (s1 := x - a) (s2 := d - y) (s3 := y - b) (B := 6000000) (by omega) (by omega) (by omega) (by omega)
   simp only [Prod.mk.injEq] at e
   obtain ⟨⟨eX, eY, eD⟩, eK⟩ := e
   omega
 · have n1 := near_in (a := a) (c := c) (x := x) (B := 3000000) (by omega) (by omega) (by omega)
   have n2 := near_in (a := b) (c := d) (x := y) (B := 3000000) (by omega) (by omega) (by omega)
   unfold rdT at e
   split at e
   · simp only [Prod.mk.injEq] at e
     obtain ⟨⟨eX, eY, eD⟩, eK⟩ := e
     have h1 := ux_bd2 (x := x - mn (mx x a) c) (y := y - mn (mx y b) d) (by omega)
     have h2 := uy_bd2 (x := x - mn (mx x a) c) (y := y - mn (mx y b) d) (by omega)
     omega
   · simp only [Prod.mk.injEq] at e
     obtain ⟨⟨eX, eY, eD⟩, eK⟩ := e
     omega
def tnT (m : (Int × Int × Int) × Bool) : (Int × Int × Int) × Bool := if m.2 = true then ((-m.1.1, -m.1.2.1, m.1.2.2), true) else ((0, 0, 0), false)
theorem sT_rr (g1 g2 x y u v X Y D : Int) (K : Bool) (w : World) (lg1 : 1 ≤ g1 ∧ g1 ≤ 25600) (lg2 : 1 ≤ g2 ∧ g2 ≤ 25600) (px : -2560000 ≤ x ∧ x ≤ 2560000) (py : -2560000 ≤ y ∧ y ≤ 2560000) (pu : -2560000 ≤ u ∧ u ≤ 2560000) (pv : -2560000 ≤ v ∧ v ≤ 2560000) (e : rdT (u - x) (v - y) (g1 + g2) = ((X, Y, D), K)) :
 Calls Tryz.prog 158 #[s3 1 g1 0, vv x y, s3 1 g2 0, vv u v] w fun e w' => e = .returned (.tuple #[s3 X Y D, .bool K]) ∧ Below w.heap.size w w' := by
 have hset := cset_map
 have w1 := i64w (n := g1 + g2) (by omega)
 go_enter Tryz.func158, Tryz.ntmps158
 go_wp2_with (go_at_call 167; refine (l5Rounds_q _ _ _ _ _ X Y D _ _ (by omega) (by omega) (by omega) (by omega) (by omega) e).mono ?_; rintro e w1 ⟨rfl, hb1⟩; have hz1 := hb1.size; (try simp only [zz] at hz1); have := kf5 hb1 w.heap.size)
 exact bodyPost_ret (v := .tuple #[s3 X Y D, .bool K]) (by simp [results, Tryz.results158, go_sem, *]) rfl ⟨rfl, bel_a⟩
theorem sT_bb (g1 h1 g2 h2 x y u v X Y D : Int) (K : Bool) (w : World) (lg1 : 1 ≤ g1 ∧ g1 ≤ 25600) (lh1 : 1 ≤ h1 ∧ h1 ≤ 25600) (lg2 : 1 ≤ g2 ∧ g2 ≤ 25600) (lh2 : 1 ≤ h2 ∧ h2 ≤ 25600) (px : -2560000 ≤ x ∧ x ≤ 2560000) (py : -2560000 ≤ y ∧ y ≤ 2560000) (pu : -2560000 ≤ u ∧ u ≤ 2560000) (pv : -2560000 ≤ v ∧ v ≤ 2560000) (e : bxT (x - g1) (y - h1) (x + g1) (y + h1) (u - g2) (v - h2) (u + g2) (v + h2) = ((X, Y, D), K)) :
 Calls Tryz.prog 158 #[s3 2 g1 h1, vv x y, s3 2 g2 h2, vv u v] w fun e w' => e = .returned (.tuple #[s3 X Y D, .bool K]) ∧ Below w.heap.size w w' := by
 have hset := cset_map
 go_enter Tryz.func158, Tryz.ntmps158
 go_upto_region 4 with fail
 refine wp_region_held_drew (S := fun w' => w'.cell? ⟨w.heap.size, 0, none⟩ = some (.int .i64 2) ∧ w'.cell? ⟨w.heap.size, 1, none⟩ = some (.int .i64 g1) ∧ w'.cell? ⟨w.heap.size, 2, none⟩ = some (.int .i64 h1) ∧ w'.cell? ⟨w.heap.size + 1, 0, none⟩ = some (.int .i64 x) ∧ w'.cell? ⟨w.heap.size + 1, 1, none⟩ = some (.int .i64 y) ∧ w'.cell? ⟨w.heap.size + 1 + 1, 0, none⟩ = some (.int .i64 2) ∧ w'.cell? ⟨w.heap.size + 1 + 1, 1, none⟩ = some (.int .i64 g2) ∧ w'.cell? ⟨w.heap.size + 1 + 1, 2, none⟩ = some (.int .i64 h2) ∧ w'.cell? ⟨w.heap.size + 1 + 1 + 1, 0, none⟩ = some (.int .i64 u) ∧ w'.cell? ⟨w.heap.size + 1 + 1 + 1, 1, none⟩ = some (.int .i64 v)) (by kernel_rfl) ?_ (fun hHeld => ?_)
 · (try dsimp only)
   (first | (go_simp; done) | (go_keep; done))
 refine tq 0 hHeld ?_
 refine tq 1 hHeld ?_
 refine tq 3 hHeld ?_
 refine tq 4 hHeld ?_
 (refine tc 2 fun K hK => ?_; go_simp; (go_at_call 55; refine (l3Bounds_b _ _ _ _ _ (by omega) (by omega) (by omega) (by omega) (by omega) (by omega)).mono ?_; rintro e w1 ⟨rfl, hb1⟩; have hz1 := hb1.size; (try simp only [zz] at hz1); have := kf5 hb1 w.heap.size); (try go_wp2_with fail); refine tr hK (fun hHeld => ?_); clear hK K)
 (refine tc 5 fun K hK => ?_; go_simp; (go_at_call 55; refine (l3Bounds_b _ _ _ _ _ (by omega) (by omega) (by omega) (by omega) (by omega) (by omega)).mono ?_; rintro e w2 ⟨rfl, hb2⟩; have hz2 := hb2.size; (try simp only [zz] at hz2); have := kf5 hb2 w.heap.size); (try go_wp2_with fail); refine tr hK (fun hHeld => ?_); clear hK K)
 (refine tc 6 fun K hK => ?_; go_simp; (go_at_call 168; refine (l5Boxes_q _ _ _ _ _ _ _ _ X Y D _ _ (by omega) (by omega) (by omega) (by omega) (by omega) (by omega) (by omega) (by omega) e).mono ?_; rintro e w3 ⟨rfl, hb3⟩; have hz3 := hb3.size; (try simp only [zz] at hz3); have := kf5 hb3 w.heap.size); (try go_wp2_with fail); refine tr hK (fun hHeld => ?_); clear hK K)
 refine tq 7 hHeld ?_
 refine tq 8 hHeld ?_
 (refine tc 9 fun K hK => ?_; go_simp; refine tr hK (fun hHeld => ?_); clear hK K)
 refine tq 10 hHeld ?_
 refine wpAnyH_done (by kernel_rfl) ?_ _
 go_wp2_with fail
 exact bodyPost_ret (v := .tuple #[s3 X Y D, .bool K]) (by simp [results, Tryz.results158, go_sem, *]) rfl ⟨rfl, bel_a⟩
theorem sT_br (g1 h1 g2 x y u v X Y D : Int) (K : Bool) (w : World) (lg1 : 1 ≤ g1 ∧ g1 ≤ 25600) (lh1 : 1 ≤ h1 ∧ h1 ≤ 25600) (lg2 : 1 ≤ g2 ∧ g2 ≤ 25600) (px : -2560000 ≤ x ∧ x ≤ 2560000) (py : -2560000 ≤ y ∧ y ≤ 2560000) (pu : -2560000 ≤ u ∧ u ≤ 2560000) (pv : -2560000 ≤ v ∧ v ≤ 2560000) (e : mxT (x - g1) (y - h1) (x + g1) (y + h1) u v g2 = ((X, Y, D), K)) :
 Calls Tryz.prog 158 #[s3 2 g1 h1, vv x y, s3 1 g2 0, vv u v] w fun e w' => e = .returned (.tuple #[s3 X Y D, .bool K]) ∧ Below w.heap.size w w' := by
 have hset := cset_map
 go_enter Tryz.func158, Tryz.ntmps158
 go_upto_region 6 with fail
 refine wp_region_held_drew (S := fun w' => w'.cell? ⟨w.heap.size, 0, none⟩ = some (.int .i64 2) ∧ w'.cell? ⟨w.heap.size, 1, none⟩ = some (.int .i64 g1) ∧ w'.cell? ⟨w.heap.size, 2, none⟩ = some (.int .i64 h1) ∧ w'.cell? ⟨w.heap.size + 1, 0, none⟩ = some (.int .i64 x) ∧ w'.cell? ⟨w.heap.size + 1, 1, none⟩ = some (.int .i64 y) ∧ w'.cell? ⟨w.heap.size + 1 + 1, 0, none⟩ = some (.int .i64 1) ∧ w'.cell? ⟨w.heap.size + 1 + 1, 1, none⟩ = some (.int .i64 g2) ∧ w'.cell? ⟨w.heap.size + 1 + 1, 2, none⟩ = some (.int .i64 0) ∧ w'.cell? ⟨w.heap.size + 1 + 1 + 1, 0, none⟩ = some (.int .i64 u) ∧ w'.cell? ⟨w.heap.size + 1 + 1 + 1, 1, none⟩ = some (.int .i64 v)) (by kernel_rfl) ?_ (fun hHeld => ?_)
 · (try dsimp only)
   (first | (go_simp; done) | (go_keep; done))
 refine tq 0 hHeld ?_
 refine tq 1 hHeld ?_
 refine tq 3 hHeld ?_
 refine tq 4 hHeld ?_
 refine tq 5 hHeld ?_
 (refine tc 2 fun K hK => ?_; go_simp; (go_at_call 55; refine (l3Bounds_b _ _ _ _ _ (by omega) (by omega) (by omega) (by omega) (by omega) (by omega)).mono ?_; rintro e w1 ⟨rfl, hb1⟩; have hz1 := hb1.size; (try simp only [zz] at hz1); have := kf5 hb1 w.heap.size); (try go_wp2_with fail); refine tr hK (fun hHeld => ?_); clear hK K)
 (refine tc 6 fun K hK => ?_; go_simp; (go_at_call 169; refine (l5Mixed_q _ _ _ _ _ _ _ X Y D _ _ (by omega) (by omega) (by omega) (by omega) (by omega) (by omega) (by omega) e).mono ?_; rintro e w2 ⟨rfl, hb2⟩; have hz2 := hb2.size; (try simp only [zz] at hz2); have := kf5 hb2 w.heap.size); (try go_wp2_with fail); refine tr hK (fun hHeld => ?_); clear hK K)
 refine tq 7 hHeld ?_
 refine tq 8 hHeld ?_
 (refine tc 9 fun K hK => ?_; go_simp; refine tr hK (fun hHeld => ?_); clear hK K)
 refine tq 10 hHeld ?_
 refine wpAnyH_done (by kernel_rfl) ?_ _
 go_wp2_with fail
 exact bodyPost_ret (v := .tuple #[s3 X Y D, .bool K]) (by simp [results, Tryz.results158, go_sem, *]) rfl ⟨rfl, bel_a⟩
theorem sT_rb (g1 g2 h2 x y u v X Y D : Int) (K : Bool) (w : World) (lg1 : 1 ≤ g1 ∧ g1 ≤ 25600) (lg2 : 1 ≤ g2 ∧ g2 ≤ 25600) (lh2 : 1 ≤ h2 ∧ h2 ≤ 25600) (px : -2560000 ≤ x ∧ x ≤ 2560000) (py : -2560000 ≤ y ∧ y ≤ 2560000) (pu : -2560000 ≤ u ∧ u ≤ 2560000) (pv : -2560000 ≤ v ∧ v ≤ 2560000) (e : tnT (mxT (u - g2) (v - h2) (u + g2) (v + h2) x y g1) = ((X, Y, D), K)) :
 Calls Tryz.prog 158 #[s3 1 g1 0, vv x y, s3 2 g2 h2, vv u v] w fun e w' => e = .returned (.tuple #[s3 X Y D, .bool K]) ∧ Below w.heap.size w w' := by
 have hset := cset_map
 obtain ⟨⟨⟨P, Q, E⟩, Z⟩, eM⟩ : ∃ z, mxT (u - g2) (v - h2) (u + g2) (v + h2) x y g1 = z := ⟨_, rfl⟩
 obtain ⟨hP, hQ⟩ := mxT_bd (by omega) (by omega) (by omega) (by omega) (by omega) (by omega) eM
 rw [eM] at e
 unfold tnT at e
 cases Z with
 | true =>
  simp only [if_true, Prod.mk.injEq] at e
  obtain ⟨⟨eX, eY, eD⟩, eK⟩ := e
  subst eX
  subst eY
  subst eD
  subst eK
  go_enter Tryz.func158, Tryz.ntmps158
  go_upto_region 7 with fail
  refine wp_region_held_drew (S := fun w' => w'.cell? ⟨w.heap.size, 0, none⟩ = some (.int .i64 1) ∧ w'.cell? ⟨w.heap.size, 1, none⟩ = some (.int .i64 g1) ∧ w'.cell? ⟨w.heap.size, 2, none⟩ = some (.int .i64 0) ∧ w'.cell? ⟨w.heap.size + 1, 0, none⟩ = some (.int .i64 x) ∧ w'.cell? ⟨w.heap.size + 1, 1, none⟩ = some (.int .i64 y) ∧ w'.cell? ⟨w.heap.size + 1 + 1, 0, none⟩ = some (.int .i64 2) ∧ w'.cell? ⟨w.heap.size + 1 + 1, 1, none⟩ = some (.int .i64 g2) ∧ w'.cell? ⟨w.heap.size + 1 + 1, 2, none⟩ = some (.int .i64 h2) ∧ w'.cell? ⟨w.heap.size + 1 + 1 + 1, 0, none⟩ = some (.int .i64 u) ∧ w'.cell? ⟨w.heap.size + 1 + 1 + 1, 1, none⟩ = some (.int .i64 v)) (by kernel_rfl) ?_ (fun hHeld => ?_)
  · (try dsimp only)
    (first | (go_simp; done) | (go_keep; done))
  refine tq 0 hHeld ?_
  refine tq 1 hHeld ?_
  refine tq 3 hHeld ?_
  refine tq 4 hHeld ?_
  refine tq 5 hHeld ?_
  refine wpAnyH_ready (rs := [2, 10]) (by kernel_rfl) (by simp) ?_
  refine AllReadyH.cons rfl (fun K hK => ?_) (AllReadyH.cons rfl (fun K hK => ?_) AllReadyH.nil)
  · (go_simp; (go_at_call 55; refine (l3Bounds_b _ _ _ _ _ (by omega) (by omega) (by omega) (by omega) (by omega) (by omega)).mono ?_; rintro e w1 ⟨rfl, hb1⟩; obtain ⟨hc1, hf1⟩ := bcell hb1; have hz1 := hb1.size; (try simp only [zz] at hc1 hf1 hz1); have := kf5 hb1 w.heap.size; (try have q := kfy hc1 hf1 hz1 (w.heap.size + 1 + 1 + 1 + 1 + 1) (by omega); obtain ⟨hk1y0, hj1y0, hq1y0, hr1y0, ht1y0⟩ := q); clear hc1 hf1); (try go_wp2_with fail); refine tr hK (fun hHeld => ?_); clear hK K)
    refine wpAnyH_ready (rs := [6, 10]) (by kernel_rfl) (by simp) ?_
    refine AllReadyH.cons rfl (fun K hK => ?_) (AllReadyH.cons rfl (fun K hK => ?_) AllReadyH.nil)
    · (go_simp; (go_at_call 169; refine (l5Mixed_q _ _ _ _ _ _ _ P Q E true _ (by omega) (by omega) (by omega) (by omega) (by omega) (by omega) (by omega) eM).mono ?_; rintro e w2 ⟨rfl, hb2⟩; obtain ⟨hc2, hf2⟩ := bcell hb2; have hz2 := hb2.size; (try simp only [zz] at hc2 hf2 hz2); have := kf5 hb2 w.heap.size; (try have q := kfy hc2 hf2 hz2 (w.heap.size + 1 + 1 + 1 + 1 + 1) (by omega); obtain ⟨hk2y0, hj2y0, hq2y0, hr2y0, ht2y0⟩ := q); (try have q := kfy hc2 hf2 hz2 (w1.heap.size) (by omega); obtain ⟨hk2y1, hj2y1, hq2y1, hr2y1, ht2y1⟩ := q); clear hc2 hf2); (try go_wp2_with fail); refine tr hK (fun hHeld => ?_); clear hK K)
      refine tq 7 hHeld ?_
      refine tq 8 hHeld ?_
      refine tq 9 hHeld ?_
      (refine tc 10 fun K hK => ?_; go_simp; refine tr hK (fun hHeld => ?_); clear hK K)
      (refine tc 11 fun K hK => ?_; go_simp; refine tr hK (fun hHeld => ?_); clear hK K)
      refine tq 12 hHeld ?_
      refine wpAnyH_done (by kernel_rfl) ?_ _
      go_wp2_with (go_at_call 170; refine (l5Turn_q _ _ _ _ (by omega) (by omega)).mono ?_; rintro e w5 ⟨rfl, hb5⟩; have hz5 := hb5.size; (try simp only [zz] at hz5); have := kf5 hb5 w.heap.size)
      exact bodyPost_ret (v := .tuple #[s3 (-P) (-Q) E, .bool true]) (by simp [results, Tryz.results158, go_sem, *]) rfl ⟨rfl, bel_a⟩
    · (go_simp; refine tr hK (fun hHeld => ?_); clear hK K)
      (refine tc 6 fun K hK => ?_; go_simp; (go_at_call 169; refine (l5Mixed_q _ _ _ _ _ _ _ P Q E true _ (by omega) (by omega) (by omega) (by omega) (by omega) (by omega) (by omega) eM).mono ?_; rintro e w2 ⟨rfl, hb2⟩; obtain ⟨hc2, hf2⟩ := bcell hb2; have hz2 := hb2.size; (try simp only [zz] at hc2 hf2 hz2); have := kf5 hb2 w.heap.size; (try have q := kfy hc2 hf2 hz2 (w.heap.size + 1 + 1 + 1 + 1 + 1) (by omega); obtain ⟨hk2y0, hj2y0, hq2y0, hr2y0, ht2y0⟩ := q); (try have q := kfy hc2 hf2 hz2 (w1.heap.size) (by omega); obtain ⟨hk2y1, hj2y1, hq2y1, hr2y1, ht2y1⟩ := q); clear hc2 hf2); (try go_wp2_with fail); refine tr hK (fun hHeld => ?_); clear hK K)
      refine tq 7 hHeld ?_
      refine tq 8 hHeld ?_
      refine tq 9 hHeld ?_
      (refine tc 11 fun K hK => ?_; go_simp; refine tr hK (fun hHeld => ?_); clear hK K)
      refine tq 12 hHeld ?_
      refine wpAnyH_done (by kernel_rfl) ?_ _
      go_wp2_with (go_at_call 170; refine (l5Turn_q _ _ _ _ (by omega) (by omega)).mono ?_; rintro e w5 ⟨rfl, hb5⟩; have hz5 := hb5.size; (try simp only [zz] at hz5); have := kf5 hb5 w.heap.size)
      exact bodyPost_ret (v := .tuple #[s3 (-P) (-Q) E, .bool true]) (by simp [results, Tryz.results158, go_sem, *]) rfl ⟨rfl, bel_a⟩
  · (go_simp; refine tr hK (fun hHeld => ?_); clear hK K)
    (refine tc 2 fun K hK => ?_; go_simp; (go_at_call 55; refine (l3Bounds_b _ _ _ _ _ (by omega) (by omega) (by omega) (by omega) (by omega) (by omega)).mono ?_; rintro e w1 ⟨rfl, hb1⟩; obtain ⟨hc1, hf1⟩ := bcell hb1; have hz1 := hb1.size; (try simp only [zz] at hc1 hf1 hz1); have := kf5 hb1 w.heap.size; (try have q := kfy hc1 hf1 hz1 (w.heap.size + 1 + 1 + 1 + 1 + 1) (by omega); obtain ⟨hk1y0, hj1y0, hq1y0, hr1y0, ht1y0⟩ := q); clear hc1 hf1); (try go_wp2_with fail); refine tr hK (fun hHeld => ?_); clear hK K)
    (refine tc 6 fun K hK => ?_; go_simp; (go_at_call 169; refine (l5Mixed_q _ _ _ _ _ _ _ P Q E true _ (by omega) (by omega) (by omega) (by omega) (by omega) (by omega) (by omega) eM).mono ?_; rintro e w2 ⟨rfl, hb2⟩; obtain ⟨hc2, hf2⟩ := bcell hb2; have hz2 := hb2.size; (try simp only [zz] at hc2 hf2 hz2); have := kf5 hb2 w.heap.size; (try have q := kfy hc2 hf2 hz2 (w.heap.size + 1 + 1 + 1 + 1 + 1) (by omega); obtain ⟨hk2y0, hj2y0, hq2y0, hr2y0, ht2y0⟩ := q); (try have q := kfy hc2 hf2 hz2 (w1.heap.size) (by omega); obtain ⟨hk2y1, hj2y1, hq2y1, hr2y1, ht2y1⟩ := q); clear hc2 hf2); (try go_wp2_with fail); refine tr hK (fun hHeld => ?_); clear hK K)
    refine tq 7 hHeld ?_
    refine tq 8 hHeld ?_
    refine tq 9 hHeld ?_
    (refine tc 11 fun K hK => ?_; go_simp; refine tr hK (fun hHeld => ?_); clear hK K)
    refine tq 12 hHeld ?_
    refine wpAnyH_done (by kernel_rfl) ?_ _
    go_wp2_with (go_at_call 170; refine (l5Turn_q _ _ _ _ (by omega) (by omega)).mono ?_; rintro e w5 ⟨rfl, hb5⟩; have hz5 := hb5.size; (try simp only [zz] at hz5); have := kf5 hb5 w.heap.size)
    exact bodyPost_ret (v := .tuple #[s3 (-P) (-Q) E, .bool true]) (by simp [results, Tryz.results158, go_sem, *]) rfl ⟨rfl, bel_a⟩
 | false =>
  rw [if_neg (by simp)] at e
  simp only [Prod.mk.injEq] at e
  obtain ⟨⟨eX, eY, eD⟩, eK⟩ := e
  subst eX
  subst eY
  subst eD
  subst eK
  go_enter Tryz.func158, Tryz.ntmps158
  go_upto_region 7 with fail
  refine wp_region_held_drew (S := fun w' => w'.cell? ⟨w.heap.size, 0, none⟩ = some (.int .i64 1) ∧ w'.cell? ⟨w.heap.size, 1, none⟩ = some (.int .i64 g1) ∧ w'.cell? ⟨w.heap.size, 2, none⟩ = some (.int .i64 0) ∧ w'.cell? ⟨w.heap.size + 1, 0, none⟩ = some (.int .i64 x) ∧ w'.cell? ⟨w.heap.size + 1, 1, none⟩ = some (.int .i64 y) ∧ w'.cell? ⟨w.heap.size + 1 + 1, 0, none⟩ = some (.int .i64 2) ∧ w'.cell? ⟨w.heap.size + 1 + 1, 1, none⟩ = some (.int .i64 g2) ∧ w'.cell? ⟨w.heap.size + 1 + 1, 2, none⟩ = some (.int .i64 h2) ∧ w'.cell? ⟨w.heap.size + 1 + 1 + 1, 0, none⟩ = some (.int .i64 u) ∧ w'.cell? ⟨w.heap.size + 1 + 1 + 1, 1, none⟩ = some (.int .i64 v)) (by kernel_rfl) ?_ (fun hHeld => ?_)
  · (try dsimp only)
    (first | (go_simp; done) | (go_keep; done))
  refine tq 0 hHeld ?_
  refine tq 1 hHeld ?_
  refine tq 3 hHeld ?_
  refine tq 4 hHeld ?_
  refine tq 5 hHeld ?_
  refine wpAnyH_ready (rs := [2, 10]) (by kernel_rfl) (by simp) ?_
  refine AllReadyH.cons rfl (fun K hK => ?_) (AllReadyH.cons rfl (fun K hK => ?_) AllReadyH.nil)
  · (go_simp; (go_at_call 55; refine (l3Bounds_b _ _ _ _ _ (by omega) (by omega) (by omega) (by omega) (by omega) (by omega)).mono ?_; rintro e w1 ⟨rfl, hb1⟩; obtain ⟨hc1, hf1⟩ := bcell hb1; have hz1 := hb1.size; (try simp only [zz] at hc1 hf1 hz1); have := kf5 hb1 w.heap.size; (try have q := kfy hc1 hf1 hz1 (w.heap.size + 1 + 1 + 1 + 1 + 1) (by omega); obtain ⟨hk1y0, hj1y0, hq1y0, hr1y0, ht1y0⟩ := q); clear hc1 hf1); (try go_wp2_with fail); refine tr hK (fun hHeld => ?_); clear hK K)
    refine wpAnyH_ready (rs := [6, 10]) (by kernel_rfl) (by simp) ?_
    refine AllReadyH.cons rfl (fun K hK => ?_) (AllReadyH.cons rfl (fun K hK => ?_) AllReadyH.nil)
    · (go_simp; (go_at_call 169; refine (l5Mixed_q _ _ _ _ _ _ _ P Q E false _ (by omega) (by omega) (by omega) (by omega) (by omega) (by omega) (by omega) eM).mono ?_; rintro e w2 ⟨rfl, hb2⟩; obtain ⟨hc2, hf2⟩ := bcell hb2; have hz2 := hb2.size; (try simp only [zz] at hc2 hf2 hz2); have := kf5 hb2 w.heap.size; (try have q := kfy hc2 hf2 hz2 (w.heap.size + 1 + 1 + 1 + 1 + 1) (by omega); obtain ⟨hk2y0, hj2y0, hq2y0, hr2y0, ht2y0⟩ := q); (try have q := kfy hc2 hf2 hz2 (w1.heap.size) (by omega); obtain ⟨hk2y1, hj2y1, hq2y1, hr2y1, ht2y1⟩ := q); clear hc2 hf2); (try go_wp2_with fail); refine tr hK (fun hHeld => ?_); clear hK K)
      refine tq 7 hHeld ?_
      refine tq 8 hHeld ?_
      refine tq 9 hHeld ?_
      (refine tc 10 fun K hK => ?_; go_simp; refine tr hK (fun hHeld => ?_); clear hK K)
      (refine tc 11 fun K hK => ?_; go_simp; refine tr hK (fun hHeld => ?_); clear hK K)
      refine tq 12 hHeld ?_
      refine wpAnyH_done (by kernel_rfl) ?_ _
      go_wp2_with fail
      exact bodyPost_ret (v := .tuple #[s3 0 0 0, .bool false]) (by simp [results, Tryz.results158, go_sem, *]) rfl ⟨rfl, bel_a⟩
    · (go_simp; refine tr hK (fun hHeld => ?_); clear hK K)
      (refine tc 6 fun K hK => ?_; go_simp; (go_at_call 169; refine (l5Mixed_q _ _ _ _ _ _ _ P Q E false _ (by omega) (by omega) (by omega) (by omega) (by omega) (by omega) (by omega) eM).mono ?_; rintro e w2 ⟨rfl, hb2⟩; obtain ⟨hc2, hf2⟩ := bcell hb2; have hz2 := hb2.size; (try simp only [zz] at hc2 hf2 hz2); have := kf5 hb2 w.heap.size; (try have q := kfy hc2 hf2 hz2 (w.heap.size + 1 + 1 + 1 + 1 + 1) (by omega); obtain ⟨hk2y0, hj2y0, hq2y0, hr2y0, ht2y0⟩ := q); (try have q := kfy hc2 hf2 hz2 (w1.heap.size) (by omega); obtain ⟨hk2y1, hj2y1, hq2y1, hr2y1, ht2y1⟩ := q); clear hc2 hf2); (try go_wp2_with fail); refine tr hK (fun hHeld => ?_); clear hK K)
      refine tq 7 hHeld ?_
      refine tq 8 hHeld ?_
      refine tq 9 hHeld ?_
      (refine tc 11 fun K hK => ?_; go_simp; refine tr hK (fun hHeld => ?_); clear hK K)
      refine tq 12 hHeld ?_
      refine wpAnyH_done (by kernel_rfl) ?_ _
      go_wp2_with fail
      exact bodyPost_ret (v := .tuple #[s3 0 0 0, .bool false]) (by simp [results, Tryz.results158, go_sem, *]) rfl ⟨rfl, bel_a⟩
  · (go_simp; refine tr hK (fun hHeld => ?_); clear hK K)
    (refine tc 2 fun K hK => ?_; go_simp; (go_at_call 55; refine (l3Bounds_b _ _ _ _ _ (by omega) (by omega) (by omega) (by omega) (by omega) (by omega)).mono ?_; rintro e w1 ⟨rfl, hb1⟩; obtain ⟨hc1, hf1⟩ := bcell hb1; have hz1 := hb1.size; (try simp only [zz] at hc1 hf1 hz1); have := kf5 hb1 w.heap.size; (try have q := kfy hc1 hf1 hz1 (w.heap.size + 1 + 1 + 1 + 1 + 1) (by omega); obtain ⟨hk1y0, hj1y0, hq1y0, hr1y0, ht1y0⟩ := q); clear hc1 hf1); (try go_wp2_with fail); refine tr hK (fun hHeld => ?_); clear hK K)
    (refine tc 6 fun K hK => ?_; go_simp; (go_at_call 169; refine (l5Mixed_q _ _ _ _ _ _ _ P Q E false _ (by omega) (by omega) (by omega) (by omega) (by omega) (by omega) (by omega) eM).mono ?_; rintro e w2 ⟨rfl, hb2⟩; obtain ⟨hc2, hf2⟩ := bcell hb2; have hz2 := hb2.size; (try simp only [zz] at hc2 hf2 hz2); have := kf5 hb2 w.heap.size; (try have q := kfy hc2 hf2 hz2 (w.heap.size + 1 + 1 + 1 + 1 + 1) (by omega); obtain ⟨hk2y0, hj2y0, hq2y0, hr2y0, ht2y0⟩ := q); (try have q := kfy hc2 hf2 hz2 (w1.heap.size) (by omega); obtain ⟨hk2y1, hj2y1, hq2y1, hr2y1, ht2y1⟩ := q); clear hc2 hf2); (try go_wp2_with fail); refine tr hK (fun hHeld => ?_); clear hK K)
    refine tq 7 hHeld ?_
    refine tq 8 hHeld ?_
    refine tq 9 hHeld ?_
    (refine tc 11 fun K hK => ?_; go_simp; refine tr hK (fun hHeld => ?_); clear hK K)
    refine tq 12 hHeld ?_
    refine wpAnyH_done (by kernel_rfl) ?_ _
    go_wp2_with fail
    exact bodyPost_ret (v := .tuple #[s3 0 0 0, .bool false]) (by simp [results, Tryz.results158, go_sem, *]) rfl ⟨rfl, bel_a⟩
def tcT (k1 g1 h1 x y k2 g2 h2 u v : Int) : (Int × Int × Int) × Bool :=
 if k1 = 1 then (if k2 = 1 then rdT (u - x) (v - y) (g1 + g2) else tnT (mxT (u - g2) (v - h2) (u + g2) (v + h2) x y g1))
 else (if k2 = 1 then mxT (x - g1) (y - h1) (x + g1) (y + h1) u v g2 else bxT (x - g1) (y - h1) (x + g1) (y + h1) (u - g2) (v - h2) (u + g2) (v + h2))
def toT (k1 g1 h1 x y k2 g2 h2 u v : Int) : (Int × Int × Int) × Bool := if (shB k1 g1 h1 && (shB k2 g2 h2 && (inB 2560000 x y && inB 2560000 u v))) = true then tcT k1 g1 h1 x y k2 g2 h2 u v else ((0, 0, 0), false)
theorem shB_kinds {k g h : Int} (e : shB k g h = true) : (k = 1 ∧ h = 0 ∧ 1 ≤ g ∧ g ≤ 25600) ∨ (k = 2 ∧ 1 ≤ g ∧ g ≤ 25600 ∧ 1 ≤ h ∧ h ≤ 25600) := by
 unfold shB rdB bxB at e; simp only [Bool.or_eq_true, decide_eq_true_eq] at e; omega
def tcH (C : Nat → Nat → Int) (i k : Nat) : (Int × Int × Int) × Bool := toT (C 1 i) (C 2 i) (C 3 i) (C 4 i) (C 5 i) (C 1 k) (C 2 k) (C 3 k) (C 4 k) (C 5 k)
def conB (C : Nat → Nat → Int) (i k : Nat) : Bool := decide (i < k) && (!(decide (C 8 i = 0) && decide (C 8 k = 0)) && (tcH C i k).2)
def conOne (C : Nat → Nat → Int) (i k : Nat) : List Int := if conB C i k = true then [(i : Int), (k : Int), (tcH C i k).1.1, (tcH C i k).1.2.1, (tcH C i k).1.2.2] else []
def conIn (C : Nat → Nat → Int) (i : Nat) : Nat → List Int
 | 0 => []
 | k + 1 => conIn C i k ++ conOne C i k
def conOut (C : Nat → Nat → Int) (n : Nat) : Nat → List Int
 | 0 => []
 | i + 1 => conOut C n i ++ conIn C i n
def conL (C : Nat → Nat → Int) (n : Nat) : List Int := conOut C n n
theorem conOne_len (C : Nat → Nat → Int) (i k : Nat) : ∃ m, (conOne C i k).length = m * 5 ∧ m ≤ 1 := by
 unfold conOne
 split
 · exact ⟨1, rfl, Nat.le_refl _⟩
 · exact ⟨0, rfl, by omega⟩
theorem conIn_len (C : Nat → Nat → Int) (i : Nat) : ∀ k, ∃ m, (conIn C i k).length = m * 5 ∧ m ≤ k
 | 0 => ⟨0, rfl, Nat.le_refl _⟩
 | k + 1 => by
  obtain ⟨m, h1, h2⟩ := conIn_len C i k
  obtain ⟨m', h3, h4⟩ := conOne_len C i k
  exact ⟨m + m', by rw [conIn, List.length_append, h1, h3]; omega, by omega⟩
theorem conOut_len (C : Nat → Nat → Int) (n : Nat) : ∀ i, ∃ m, (conOut C n i).length = m * 5 ∧ m ≤ i * n
 | 0 => ⟨0, rfl, by omega⟩
 | i + 1 => by
  obtain ⟨m, h1, h2⟩ := conOut_len C n i
  obtain ⟨m', h3, h4⟩ := conIn_len C i n
  exact ⟨m + m', by rw [conOut, List.length_append, h1, h3]; omega, by rw [Nat.succ_mul]; omega⟩
theorem conB_ge {C : Nat → Nat → Int} {i k : Nat} (h : k ≤ i) : conB C i k = false := by
 unfold conB
 rw [decide_eq_false (by omega)]
 rfl
theorem conOne_no {C : Nat → Nat → Int} {i k : Nat} (h : conB C i k = false) : conOne C i k = [] := by
 unfold conOne
 rw [h]
 rfl
theorem conOne_yes {C : Nat → Nat → Int} {i k : Nat} {X Y D : Int} (h : conB C i k = true) (e : tcH C i k = ((X, Y, D), true)) : conOne C i k = [(i : Int), (k : Int), X, Y, D] := by
 unfold conOne
 rw [if_pos h, e]
theorem conB_yes {C : Nat → Nat → Int} {i k : Nat} {X Y D : Int} (h : i < k) (hf : ¬ (C 8 i = 0 ∧ C 8 k = 0)) (e : tcH C i k = ((X, Y, D), true)) : conB C i k = true := by
 unfold conB
 rw [e, decide_eq_true h]
 by_cases e1 : C 8 i = 0
 · have e2 : ¬ C 8 k = 0 := fun q => hf ⟨e1, q⟩
   simp [e2]
 · simp [e1]
theorem conIn_ge {C : Nat → Nat → Int} (i : Nat) : ∀ k, k ≤ i + 1 → conIn C i k = []
 | 0, _ => rfl
 | k + 1, h => by rw [conIn, conIn_ge i k (by omega), conOne_no (conB_ge (by omega))]; rfl
structure LsAt (w2 W : World) (lb t k : Nat) (a : Option Addr) (m c : Nat) (l : List Int) : Prop where
 fr : Fr (fun b => b = lb) w2 W
 box : W.cell? ⟨lb, 0, none⟩ = some (.slice a m c)
 nf : W.frozen? ⟨lb, 0, none⟩ = false
 len : l.length = m * k
 own : OwnL W w2.heap.size t k (.slice a m c) m (ofL l)
theorem Fr.sm {X : Nat → Prop} {w2 W W' : World} {B : Nat} (h : Fr X w2 W) (hs : Sm B W W') (hB : w2.heap.size ≤ B) : Fr X w2 W' :=
 ⟨hs.below.os.trans h.os, hs.below.tape.trans h.tape, hs.below.output.trans h.output, Nat.le_trans h.size hs.size, fun k hk hn => (hs.below.block k (by omega)).trans (h.block k hk hn), fun k o hk ho => (hs.below.block k (by have := (Array.getElem?_eq_some_iff.1 hk).1; omega)).trans (h.kind k o hk ho)⟩
theorem LsAt.sm {w2 W W' : World} {B lb t k m c : Nat} {a : Option Addr} {l : List Int} (h : LsAt w2 W lb t k a m c l) (hs : Sm B W W') (hB : w2.heap.size ≤ B) : LsAt w2 W' lb t k a m c l :=
 ⟨h.fr.sm hs hB, hs.cell h.box, hs.frozen h.box h.nf, h.len, h.own.sm hs⟩
theorem LsAt.below {w2 W W' : World} {lb t k m c : Nat} {a : Option Addr} {l : List Int} (h : LsAt w2 W lb t k a m c l) (hs : Below W.heap.size W W') : LsAt w2 W' lb t k a m c l := h.sm (Sm.of_below hs (Nat.le_refl _)) h.fr.size
theorem LsAt.start {w2 : World} {lb t k : Nat} (h : w2.cell? ⟨lb, 0, none⟩ = some (.slice none 0 0)) (hf : w2.frozen? ⟨lb, 0, none⟩ = false) : LsAt w2 w2 lb t k none 0 0 [] :=
 ⟨Fr.refl _ _, h, hf, by simp, OwnL.nil _ _ _ _ _⟩
theorem LsAt.keeps {w2 W W1 : World} {lb t k m c m' c' : Nat} {a a' : Option Addr} {l : List Int} (h : LsAt w2 W lb t k a m c l) (hlb : lb < w2.heap.size) (hg : W.grownBy W1 (Value.slice a m c).ownBlock) :
 Fr (fun b => b = lb ∨ (Value.slice a m c).ownBlock = some b) W (W1.setCell ⟨lb, 0, none⟩ (.slice a' m' c')) :=
 (Fr.grown hg (fun b hb => .inr hb) h.own.isCells).trans (Fr.setCell (.inl rfl) _)
theorem LsAt.push {w2 W W1 : World} {lb t k m c : Nat} {a a' : Option Addr} {c' : Nat} {l x : List Int} (h : LsAt w2 W lb t k a m c l) (hlb : lb < w2.heap.size) (hx : x.length = k) (hg : W.grownBy W1 (Value.slice a m c).ownBlock)
 (ho : OwnL W1 w2.heap.size t k (.slice a' (m + 1) c') (m + 1) (cat (m * k) (ofL l) (ofL x))) : LsAt w2 (W1.setCell ⟨lb, 0, none⟩ (.slice a' (m + 1) c')) lb t k a' (m + 1) c' (l ++ x) := by
 have hne : ∀ b, (Value.slice a m c).ownBlock = some b → b ≠ lb := fun b hb => by have := (h.own.lt b hb).1; omega
 have hl : lb < W.heap.size := Nat.lt_of_lt_of_le hlb h.fr.size
 have hb1 : W1.heap[lb]? = W.heap[lb]? := hg.block lb hl (fun e => hne lb e.symm rfl)
 refine ⟨(h.fr.trans' (Fr.grown (X := fun b => (Value.slice a m c).ownBlock = some b) hg (fun b hb => hb) h.own.isCells) (fun i hi e => by have := (h.own.lt i e).1; omega)).trans (Fr.setCell (X := fun b => b = lb) rfl _), cset_same ((World.cell?_of_block (a := ⟨lb, 0, none⟩) hb1).trans h.box), ?_, by rw [List.length_append, h.len, hx, Nat.succ_mul], ?_⟩
 · rw [World.frozen?_setCell]; exact (World.frozen?_of_block (a := ⟨lb, 0, none⟩) hb1).trans h.nf
 · rw [← cat_ofL, h.len]
   refine OwnL.frame (X := fun b => b = lb) ho (Fr.setCell (X := fun b => b = lb) rfl _) (fun b hb e => ?_)
   have := (ho.lt b hb).1
   omega
theorem _root_.Go.KeepsFrom.sm {B B' : Nat} {W X X' : World} (h : KeepsFrom B W X) (hs : Sm B' X X') (hB : W.heap.size ≤ B') : KeepsFrom B W X' :=
 ⟨Nat.le_trans h.size hs.size, fun k o hk h0 ho => (hs.below.block k (by have := (Array.getElem?_eq_some_iff.1 h0).1; omega)).trans (h.same k o hk h0 ho)⟩
def hitB (x y k : Int) : Bool := inB 256 x y && decide (0 ≤ k ∧ k ≤ 102400)
theorem bodiesOk_q (a : Option Addr) (n c : Nat) (U : Nat → Int) (b : Bool) (w : World) (h : Flat w a (n * 12) U) (hn : n ≤ 1048576) (eb : bodsB n U = b) :
 Calls Tryz.prog 41 #[.slice a n c] w fun e w' => e = .returned (.bool b) ∧ Below w.heap.size w w' := by
 have hset := cset_map
 cases b with
 | true =>
  go_enter Tryz.func41, Tryz.ntmps41
  go_wp2_with (go_at_call 73; refine (columnsOf_ok a n c U _ h hn eb).mono ?_; rintro e w1 ⟨cb, S, rfl, hcb, hC, hb1⟩)
  go_ret
  exact ⟨rfl, bel_a⟩
 | false =>
  go_enter Tryz.func41, Tryz.ntmps41
  go_wp2_with (go_at_call 73; refine (columnsOf_no a n c U _ h hn eb).mono ?_; rintro e w1 ⟨rfl, hb1⟩)
  go_ret
  exact ⟨rfl, bel_a⟩
end Go.Proofs.YthijeiehcdoidaaGreat
namespace Go.Proofs.YthijeiehcdoidaaGreat
open Go.RowKit
set_option linter.unusedVariables false
end Go.Proofs.YthijeiehcdoidaaGreat
namespace Go.Proofs.YthijeiehcdoidaaGreat
open Go.RowKit
set_option linter.unusedVariables false
set_option linter.unusedSimpArgs false
def Dn (x : Int) : Prop := -1099511627776 ≤ x ∧ x ≤ 1099511627776
theorem RB.size {w0 w : World} {rb p : Nat} (h : RB w0 w rb p) : w0.heap.size ≤ w.heap.size := by
 have := (h.old (B := 0) (Nat.zero_le _) (Nat.zero_le _)).size
 exact this
end Go.Proofs.YthijeiehcdoidaaGreat
namespace Go.Proofs.YthijeiehcdoidaaGreat
open Go.RowKit
set_option linter.unusedVariables false
end Go.Proofs.YthijeiehcdoidaaGreat
