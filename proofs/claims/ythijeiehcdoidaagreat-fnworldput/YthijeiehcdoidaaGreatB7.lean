/- Texts of a proof. -/
import Derived.Test.YthijeiehcdoidaaGreatB4
import Derived.Test.YthijeiehcdoidaaGreatB1
import Derived.Test.YthijeiehcdoidaaGreatB3
import Derived.Test.YthijeiehcdoidaaGreatB6
import Derived.Deep.QuietTactic
import Derived.BigQuiet
import Derived.Deep.RegionWith
import Derived.Deep.RegionHeld3
import Derived.Deep.DeepCutAuto
import Derived.Test.YthijeiehcdoidaaGreatB5
set_option maxHeartbeats 16000000
set_option maxRecDepth 20000
namespace Go.Proofs.YthijeiehcdoidaaGreat
open Go.RowKit
set_option linter.unusedVariables false
set_option linter.unusedSimpArgs false
structure Nb (w : World) (b k : Nat) (V : Nat → Int) : Prop where
 c : ∀ j, j < k → w.cell? ⟨b, j, none⟩ = some (.int .i64 (V j))
 f : ∀ o, w.frozen? ⟨b, o, none⟩ = false
 l : b < w.heap.size
theorem Nb.on {w w' : World} {b k : Nat} {V : Nat → Int} (h : Nb w b k V) (hb : Below w.heap.size w w') : Nb w' b k V :=
 ⟨fun j hj => (hb.cell (p := ⟨b, j, none⟩) h.l).trans (h.c j hj), fun o => (hb.frozen (p := ⟨b, o, none⟩) h.l).trans (h.f o), Nat.lt_of_lt_of_le h.l hb.size⟩
theorem Nb.fr {w w' : World} {b k : Nat} {V : Nat → Int} {X : Nat → Prop} (h : Nb w b k V) (hs : Fr X w w') (hx : ¬ X b) : Nb w' b k V :=
 ⟨fun j hj => (hs.cell (p := ⟨b, j, none⟩) h.l hx).trans (h.c j hj), fun o => (hs.frozen (p := ⟨b, o, none⟩) h.l hx).trans (h.f o), Nat.lt_of_lt_of_le h.l hs.size⟩
theorem Nb.dr {w : World} {b k : Nat} {V : Nat → Int} (h : Nb w b k V) : Nb w.drew b k V := ⟨fun j hj => h.c j hj, fun o => h.f o, h.l⟩
theorem Nb.congr {w : World} {b k : Nat} {V W : Nat → Int} (h : Nb w b k V) (e : ∀ j, j < k → V j = W j) : Nb w b k W := ⟨fun j hj => by rw [← e j hj]; exact h.c j hj, h.f, h.l⟩
theorem Nb.set {w : World} {b k : Nat} {V : Nat → Int} (h : Nb w b k V) (j : Nat) (hj : j < k) (x : Int) : Nb (w.setCell ⟨b, j, none⟩ (.int .i64 x)) b k (fun i => if i = j then x else V i) := by
 have h1 := h.c j hj
 refine ⟨fun i hi => ?_, fun o => ?_, by simp; exact h.l⟩
 · by_cases e : i = j
   · subst e; rw [if_pos rfl]; exact World.cell?_setCell_same _ _ _ h1
   · rw [if_neg e, World.cell?_setCell_other _ _ _ _ (by intro h; simp only [Addr.mk.injEq] at h; omega)]; exact h.c i hi
 · have := h.f o; simp [this]
end Go.Proofs.YthijeiehcdoidaaGreat
namespace Go.Proofs.YthijeiehcdoidaaGreat
open Go.RowKit
set_option linter.unusedVariables false
theorem kf2 {W w1 : World} (hb : Below W.heap.size W w1) (b : Nat) (h : b + 1 < W.heap.size := by ((try simp only [zz]); omega)) :
 ((∀ o, w1.cell? ⟨b, o, none⟩ = W.cell? ⟨b, o, none⟩) ∧ (∀ o, w1.frozen? ⟨b, o, none⟩ = W.frozen? ⟨b, o, none⟩) ∧ b < w1.heap.size) ∧ ((∀ o, w1.cell? ⟨b + 1, o, none⟩ = W.cell? ⟨b + 1, o, none⟩) ∧ (∀ o, w1.frozen? ⟨b + 1, o, none⟩ = W.frozen? ⟨b + 1, o, none⟩) ∧ b + 1 < w1.heap.size) :=
 ⟨kfa hb (b) (by omega), kfa hb (b + 1) (by omega)⟩
theorem kf3 {W w1 : World} (hb : Below W.heap.size W w1) (b : Nat) (h : b + 1 + 1 < W.heap.size := by ((try simp only [zz]); omega)) :
 ((∀ o, w1.cell? ⟨b, o, none⟩ = W.cell? ⟨b, o, none⟩) ∧ (∀ o, w1.frozen? ⟨b, o, none⟩ = W.frozen? ⟨b, o, none⟩) ∧ b < w1.heap.size) ∧ ((∀ o, w1.cell? ⟨b + 1, o, none⟩ = W.cell? ⟨b + 1, o, none⟩) ∧ (∀ o, w1.frozen? ⟨b + 1, o, none⟩ = W.frozen? ⟨b + 1, o, none⟩) ∧ b + 1 < w1.heap.size) ∧ ((∀ o, w1.cell? ⟨b + 1 + 1, o, none⟩ = W.cell? ⟨b + 1 + 1, o, none⟩) ∧ (∀ o, w1.frozen? ⟨b + 1 + 1, o, none⟩ = W.frozen? ⟨b + 1 + 1, o, none⟩) ∧ b + 1 + 1 < w1.heap.size) :=
 ⟨kfa hb (b) (by omega), kfa hb (b + 1) (by omega), kfa hb (b + 1 + 1) (by omega)⟩
theorem kf4 {W w1 : World} (hb : Below W.heap.size W w1) (b : Nat) (h : b + 1 + 1 + 1 < W.heap.size := by ((try simp only [zz]); omega)) :
 ((∀ o, w1.cell? ⟨b, o, none⟩ = W.cell? ⟨b, o, none⟩) ∧ (∀ o, w1.frozen? ⟨b, o, none⟩ = W.frozen? ⟨b, o, none⟩) ∧ b < w1.heap.size) ∧ ((∀ o, w1.cell? ⟨b + 1, o, none⟩ = W.cell? ⟨b + 1, o, none⟩) ∧ (∀ o, w1.frozen? ⟨b + 1, o, none⟩ = W.frozen? ⟨b + 1, o, none⟩) ∧ b + 1 < w1.heap.size) ∧ ((∀ o, w1.cell? ⟨b + 1 + 1, o, none⟩ = W.cell? ⟨b + 1 + 1, o, none⟩) ∧ (∀ o, w1.frozen? ⟨b + 1 + 1, o, none⟩ = W.frozen? ⟨b + 1 + 1, o, none⟩) ∧ b + 1 + 1 < w1.heap.size) ∧ ((∀ o, w1.cell? ⟨b + 1 + 1 + 1, o, none⟩ = W.cell? ⟨b + 1 + 1 + 1, o, none⟩) ∧ (∀ o, w1.frozen? ⟨b + 1 + 1 + 1, o, none⟩ = W.frozen? ⟨b + 1 + 1 + 1, o, none⟩) ∧ b + 1 + 1 + 1 < w1.heap.size) :=
 ⟨kfa hb (b) (by omega), kfa hb (b + 1) (by omega), kfa hb (b + 1 + 1) (by omega), kfa hb (b + 1 + 1 + 1) (by omega)⟩
theorem kf5 {W w1 : World} (hb : Below W.heap.size W w1) (b : Nat) (h : b + 1 + 1 + 1 + 1 < W.heap.size := by ((try simp only [zz]); omega)) :
 ((∀ o, w1.cell? ⟨b, o, none⟩ = W.cell? ⟨b, o, none⟩) ∧ (∀ o, w1.frozen? ⟨b, o, none⟩ = W.frozen? ⟨b, o, none⟩) ∧ b < w1.heap.size) ∧ ((∀ o, w1.cell? ⟨b + 1, o, none⟩ = W.cell? ⟨b + 1, o, none⟩) ∧ (∀ o, w1.frozen? ⟨b + 1, o, none⟩ = W.frozen? ⟨b + 1, o, none⟩) ∧ b + 1 < w1.heap.size) ∧ ((∀ o, w1.cell? ⟨b + 1 + 1, o, none⟩ = W.cell? ⟨b + 1 + 1, o, none⟩) ∧ (∀ o, w1.frozen? ⟨b + 1 + 1, o, none⟩ = W.frozen? ⟨b + 1 + 1, o, none⟩) ∧ b + 1 + 1 < w1.heap.size) ∧ ((∀ o, w1.cell? ⟨b + 1 + 1 + 1, o, none⟩ = W.cell? ⟨b + 1 + 1 + 1, o, none⟩) ∧ (∀ o, w1.frozen? ⟨b + 1 + 1 + 1, o, none⟩ = W.frozen? ⟨b + 1 + 1 + 1, o, none⟩) ∧ b + 1 + 1 + 1 < w1.heap.size) ∧ ((∀ o, w1.cell? ⟨b + 1 + 1 + 1 + 1, o, none⟩ = W.cell? ⟨b + 1 + 1 + 1 + 1, o, none⟩) ∧ (∀ o, w1.frozen? ⟨b + 1 + 1 + 1 + 1, o, none⟩ = W.frozen? ⟨b + 1 + 1 + 1 + 1, o, none⟩) ∧ b + 1 + 1 + 1 + 1 < w1.heap.size) :=
 ⟨kfa hb (b) (by omega), kfa hb (b + 1) (by omega), kfa hb (b + 1 + 1) (by omega), kfa hb (b + 1 + 1 + 1) (by omega), kfa hb (b + 1 + 1 + 1 + 1) (by omega)⟩
theorem kf6 {W w1 : World} (hb : Below W.heap.size W w1) (b : Nat) (h : b + 1 + 1 + 1 + 1 + 1 < W.heap.size := by ((try simp only [zz]); omega)) :
 ((∀ o, w1.cell? ⟨b, o, none⟩ = W.cell? ⟨b, o, none⟩) ∧ (∀ o, w1.frozen? ⟨b, o, none⟩ = W.frozen? ⟨b, o, none⟩) ∧ b < w1.heap.size) ∧ ((∀ o, w1.cell? ⟨b + 1, o, none⟩ = W.cell? ⟨b + 1, o, none⟩) ∧ (∀ o, w1.frozen? ⟨b + 1, o, none⟩ = W.frozen? ⟨b + 1, o, none⟩) ∧ b + 1 < w1.heap.size) ∧ ((∀ o, w1.cell? ⟨b + 1 + 1, o, none⟩ = W.cell? ⟨b + 1 + 1, o, none⟩) ∧ (∀ o, w1.frozen? ⟨b + 1 + 1, o, none⟩ = W.frozen? ⟨b + 1 + 1, o, none⟩) ∧ b + 1 + 1 < w1.heap.size) ∧ ((∀ o, w1.cell? ⟨b + 1 + 1 + 1, o, none⟩ = W.cell? ⟨b + 1 + 1 + 1, o, none⟩) ∧ (∀ o, w1.frozen? ⟨b + 1 + 1 + 1, o, none⟩ = W.frozen? ⟨b + 1 + 1 + 1, o, none⟩) ∧ b + 1 + 1 + 1 < w1.heap.size) ∧ ((∀ o, w1.cell? ⟨b + 1 + 1 + 1 + 1, o, none⟩ = W.cell? ⟨b + 1 + 1 + 1 + 1, o, none⟩) ∧ (∀ o, w1.frozen? ⟨b + 1 + 1 + 1 + 1, o, none⟩ = W.frozen? ⟨b + 1 + 1 + 1 + 1, o, none⟩) ∧ b + 1 + 1 + 1 + 1 < w1.heap.size) ∧ ((∀ o, w1.cell? ⟨b + 1 + 1 + 1 + 1 + 1, o, none⟩ = W.cell? ⟨b + 1 + 1 + 1 + 1 + 1, o, none⟩) ∧ (∀ o, w1.frozen? ⟨b + 1 + 1 + 1 + 1 + 1, o, none⟩ = W.frozen? ⟨b + 1 + 1 + 1 + 1 + 1, o, none⟩) ∧ b + 1 + 1 + 1 + 1 + 1 < w1.heap.size) :=
 ⟨kfa hb (b) (by omega), kfa hb (b + 1) (by omega), kfa hb (b + 1 + 1) (by omega), kfa hb (b + 1 + 1 + 1) (by omega), kfa hb (b + 1 + 1 + 1 + 1) (by omega), kfa hb (b + 1 + 1 + 1 + 1 + 1) (by omega)⟩
end Go.Proofs.YthijeiehcdoidaaGreat
namespace Go.Proofs.YthijeiehcdoidaaGreat
open Go.RowKit
set_option linter.unusedVariables false
set_option linter.unusedSimpArgs false
def bb (o : Bool) (x : Int) : Int := if o = true then x else 0
theorem l3Less_any (x y : Int) (w : World) :
 Calls Tryz.prog 117 #[.int .i64 x, .int .i64 y] w fun e w' => e = .returned (.int .i64 (mn x y)) ∧ w' = w := by
 go_enter Tryz.func117, Tryz.ntmps117
 go_wp2
 all_goals
  go_ret
  refine ⟨?_, rfl⟩
  unfold mn
  split <;> first | rfl | (exfalso; omega) | (have hxy : x = y := (by omega); subst hxy; rfl) | (exfalso; simp at *; omega)
theorem l3More_any (x y : Int) (w : World) :
 Calls Tryz.prog 116 #[.int .i64 x, .int .i64 y] w fun e w' => e = .returned (.int .i64 (mx x y)) ∧ w' = w := by
 go_enter Tryz.func116, Tryz.ntmps116
 go_wp2
 all_goals
  go_ret
  refine ⟨?_, rfl⟩
  unfold mx
  split <;> first | rfl | (exfalso; omega) | (have hxy : x = y := (by omega); subst hxy; rfl) | (exfalso; simp at *; omega)
theorem l3Near_any (a b c d x y : Int) (w : World) :
 Calls Tryz.prog 179 #[b4 a b c d, vv x y] w fun e w' => e = .returned (vv (mn (mx x a) c) (mn (mx y b) d)) ∧ Below w.heap.size w w' := by
 have hset := cset_map
 go_enter Tryz.func179, Tryz.ntmps179
 go_wp2
 go_region_held3 (fun w' => w'.cell? ⟨w.heap.size, 0, none⟩ = some (.int .i64 a) ∧ w'.cell? ⟨w.heap.size, 1, none⟩ = some (.int .i64 b) ∧ w'.cell? ⟨w.heap.size, 2, none⟩ = some (.int .i64 c) ∧ w'.cell? ⟨w.heap.size, 3, none⟩ = some (.int .i64 d) ∧ w'.cell? ⟨w.heap.size + 1, 0, none⟩ = some (.int .i64 x) ∧ w'.cell? ⟨w.heap.size + 1, 1, none⟩ = some (.int .i64 y)) (first | (go_simp; done) | (go_keep; done)) (first
  | (go_at_call 117; refine (l3Less_any _ _ _).mono ?_; rintro e w' ⟨rfl, rfl⟩)
  | (go_at_call 116; refine (l3More_any _ _ _).mono ?_; rintro e w' ⟨rfl, rfl⟩))
 all_goals
  go_wp2
  exact bodyPost_ret (v := vv (mn (mx x a) c) (mn (mx y b) d)) (by simp [results, Tryz.results179, go_sem, *]) rfl ⟨rfl, bel_a⟩
def rdT (dx dy g : Int) : (Int × Int × Int) × Bool := if dx * dx + dy * dy ≤ g * g then ((ux dx dy, uy dx dy, g - vl dx dy), true) else ((0, 0, 0), false)
def bsT (s0 s1 s2 s3 : Int) : Int × Int × Int :=
 let m1 : Int × Int × Int := if s1 < s0 then (-256, 0, s1) else (256, 0, s0)
 let m2 : Int × Int × Int := if s2 < m1.2.2 then (0, 256, s2) else m1
 if s3 < m2.2.2 then (0, -256, s3) else m2
def bxT (a b c d r s t u : Int) : (Int × Int × Int) × Bool := if (leB a b t u && leB r s c d) = true then (bsT (c - r) (t - a) (d - s) (u - b), true) else ((0, 0, 0), false)
theorem sunit_q (x y X Y : Int) (w : World) (e1 : ux (fc x) (fc y) = X) (e2 : uy (fc x) (fc y) = Y) :
 Calls Tryz.prog 176 #[vv x y] w fun e w' => e = .returned (vv X Y) ∧ Below w.heap.size w w' := by
 subst e1; subst e2; exact sVecUnit_any x y w
theorem slen_q (x y L : Int) (w : World) (e : vl (fc x) (fc y) = L) :
 Calls Tryz.prog 177 #[vv x y] w fun e w' => e = .returned (.int .i64 L) ∧ Below w.heap.size w w' := by
 subst e; exact sVecLen_any x y w
theorem l5Rounds_q (a b x y g X Y D : Int) (K : Bool) (w : World) (qa : -3000000 ≤ a ∧ a ≤ 3000000) (qb : -3000000 ≤ b ∧ b ≤ 3000000) (qx : -3000000 ≤ x ∧ x ≤ 3000000) (qy : -3000000 ≤ y ∧ y ≤ 3000000) (g0 : 0 ≤ g ∧ g ≤ 100000) (e : rdT (x - a) (y - b) g = ((X, Y, D), K)) :
 Calls Tryz.prog 167 #[vv a b, vv x y, .int .i64 g] w fun e w' => e = .returned (.tuple #[s3 X Y D, .bool K]) ∧ Below w.heap.size w w' := by
 have hset := cset_map
 obtain ⟨dx, ex⟩ : ∃ z, x - a = z := ⟨_, rfl⟩
 obtain ⟨dy, ey⟩ : ∃ z, y - b = z := ⟨_, rfl⟩
 have w1 := i64w (n := x - a) (by omega)
 have w2 := i64w (n := y - b) (by omega)
 rw [ex] at e w1
 rw [ey] at e w2
 have m3 := mul_bd (a := g) (b := g) (A := 100000) (B := 100000) (by omega) (by omega)
 have w3 := i64w (n := g * g) (by omega)
 unfold rdT at e
 cases dd : decide (g * g < dx * dx + dy * dy) with
 | true =>
  have hn := of_decide_eq_true dd
  rw [if_neg (by omega)] at e
  cases e
  clear hn m3
  go_enter Tryz.func167, Tryz.ntmps167
  go_wp2_with (go_at_call 114; refine (l2Square_any _ _ _ (by omega) (by omega)).mono ?_; rintro e w1 ⟨rfl, hb1⟩; have hz1 := hb1.size; (try simp only [zz] at hz1); have := kf4 hb1 w.heap.size)
  exact bodyPost_ret (v := .tuple #[s3 0 0 0, .bool false]) (by simp [results, Tryz.results167, go_sem, *]) rfl ⟨rfl, bel_a⟩
 | false =>
  have hn := of_decide_eq_false dd
  rw [if_pos (by omega)] at e
  obtain ⟨L, eL⟩ : ∃ z, vl dx dy = z := ⟨_, rfl⟩
  have lb := vl_bd dx dy
  rw [eL] at lb
  rw [eL] at e
  simp only [Prod.mk.injEq] at e
  obtain ⟨⟨eX, eY, eD⟩, eK⟩ := e
  subst eD
  subst eK
  have f1 := fc_id (n := dx) (by omega) (by omega)
  have f2 := fc_id (n := dy) (by omega) (by omega)
  have eX : ux (fc dx) (fc dy) = X := by rw [f1, f2]; exact eX
  have eY : uy (fc dx) (fc dy) = Y := by rw [f1, f2]; exact eY
  have eL : vl (fc dx) (fc dy) = L := by rw [f1, f2]; exact eL
  have w4 := i64w (n := g - L) (by omega)
  clear hn m3 f1 f2
  go_enter Tryz.func167, Tryz.ntmps167
  go_upto_region 4 with (go_at_call 114; refine (l2Square_any _ _ _ (by omega) (by omega)).mono ?_; rintro e w1 ⟨rfl, hb1⟩; have hz1 := hb1.size; (try simp only [zz] at hz1); have := kf4 hb1 w.heap.size)
  refine wp_region_held_drew (S := fun w' => w'.cell? ⟨w.heap.size + 1 + 1 + 1, 0, none⟩ = some (.int .i64 dx) ∧ w'.cell? ⟨w.heap.size + 1 + 1 + 1, 1, none⟩ = some (.int .i64 dy)) (by kernel_rfl) ?_ (fun hHeld => ?_)
  · (try dsimp only)
    (first | (go_simp; done) | (go_keep; done))
  refine tq 0 hHeld ?_
  refine tq 2 hHeld ?_
  refine tq 3 hHeld ?_
  (refine tc 1 fun K hK => ?_; go_simp; (go_at_call 176; refine (sunit_q _ _ _ _ _ eX eY).mono ?_; rintro e w2 ⟨rfl, hb2⟩; have hz2 := hb2.size; (try simp only [zz] at hz2); have := kf4 hb2 w.heap.size); (try go_wp2_with fail); refine tr hK (fun hHeld => ?_); clear hK K)
  (refine tc 4 fun K hK => ?_; go_simp; (go_at_call 177; refine (slen_q _ _ _ _ eL).mono ?_; rintro e w3 ⟨rfl, hb3⟩; have hz3 := hb3.size; (try simp only [zz] at hz3); have := kf4 hb3 w.heap.size); (try go_wp2_with fail); refine tr hK (fun hHeld => ?_); clear hK K)
  refine tq 5 hHeld ?_
  refine tq 6 hHeld ?_
  (refine tc 7 fun K hK => ?_; go_simp; refine tr hK (fun hHeld => ?_); clear hK K)
  refine tq 8 hHeld ?_
  refine wpAnyH_done (by kernel_rfl) ?_ _
  go_wp2_with fail
  exact bodyPost_ret (v := .tuple #[s3 X Y (g - L), .bool true]) (by simp [results, Tryz.results167, go_sem, *]) rfl ⟨rfl, bel_a⟩
theorem smeets_q (a b c d r s t u : Int) (z : Bool) (w : World) (e : (leB a b t u && leB r s c d) = z) :
 Calls Tryz.prog 178 #[b4 a b c d, b4 r s t u] w fun e w' => e = .returned (.bool z) ∧ Below w.heap.size w w' := by
 subst e; exact l3Meets_any a b c d r s t u w
theorem l5Boxes_q (a b c d r s t u X Y D : Int) (K : Bool) (w : World) (qa : -3000000 ≤ a ∧ a ≤ 3000000) (qb : -3000000 ≤ b ∧ b ≤ 3000000) (qc : -3000000 ≤ c ∧ c ≤ 3000000) (qd : -3000000 ≤ d ∧ d ≤ 3000000) (qr : -3000000 ≤ r ∧ r ≤ 3000000) (qs : -3000000 ≤ s ∧ s ≤ 3000000) (qt : -3000000 ≤ t ∧ t ≤ 3000000) (qu : -3000000 ≤ u ∧ u ≤ 3000000) (e : bxT a b c d r s t u = ((X, Y, D), K)) :
 Calls Tryz.prog 168 #[b4 a b c d, b4 r s t u] w fun e w' => e = .returned (.tuple #[s3 X Y D, .bool K]) ∧ Below w.heap.size w w' := by
 have hset := cset_map
 unfold bxT at e
 cases eM : (leB a b t u && leB r s c d) with
 | false =>
  rw [if_neg (by simp [eM])] at e
  cases e
  go_enter Tryz.func168, Tryz.ntmps168
  go_wp2_with (go_at_call 178; refine (smeets_q _ _ _ _ _ _ _ _ _ _ eM).mono ?_; rintro e w1 ⟨rfl, hb1⟩; have hz1 := hb1.size; (try simp only [zz] at hz1); have := kf3 hb1 w.heap.size)
  exact bodyPost_ret (v := .tuple #[s3 0 0 0, .bool false]) (by simp [results, Tryz.results168, go_sem, *]) rfl ⟨rfl, bel_a⟩
 | true =>
  rw [if_pos eM] at e
  obtain ⟨s0, es0⟩ : ∃ z, c - r = z := ⟨_, rfl⟩
  have ws0 := i64w (n := c - r) (by omega)
  rw [es0] at e ws0
  obtain ⟨s1, es1⟩ : ∃ z, t - a = z := ⟨_, rfl⟩
  have ws1 := i64w (n := t - a) (by omega)
  rw [es1] at e ws1
  obtain ⟨s2, es2⟩ : ∃ z, d - s = z := ⟨_, rfl⟩
  have ws2 := i64w (n := d - s) (by omega)
  rw [es2] at e ws2
  obtain ⟨s3', es3'⟩ : ∃ z, u - b = z := ⟨_, rfl⟩
  have ws3' := i64w (n := u - b) (by omega)
  rw [es3'] at e ws3'
  unfold bsT at e
  cases d1 : decide (s1 < s0) with
  | true =>
   simp only [if_pos (of_decide_eq_true d1)] at e
   cases d2 : decide (s2 < s1) with
   | true =>
    simp only [if_pos (of_decide_eq_true d2)] at e
    cases d3 : decide (s3' < s2) with
    | true =>
     simp only [if_pos (of_decide_eq_true d3)] at e
     simp only [Prod.mk.injEq] at e
     obtain ⟨⟨eX, eY, eD⟩, eK⟩ := e
     subst eX
     subst eY
     subst eD
     subst eK
     go_enter Tryz.func168, Tryz.ntmps168
     go_wp2_with (go_at_call 178; refine (smeets_q _ _ _ _ _ _ _ _ _ _ eM).mono ?_; rintro e w1 ⟨rfl, hb1⟩; have hz1 := hb1.size; (try simp only [zz] at hz1); have := kf3 hb1 w.heap.size)
     exact bodyPost_ret (v := .tuple #[s3 0 (-256) s3', .bool true]) (by simp [results, Tryz.results168, go_sem, *]) rfl ⟨rfl, bel_a⟩
    | false =>
     simp only [if_neg (of_decide_eq_false d3)] at e
     simp only [Prod.mk.injEq] at e
     obtain ⟨⟨eX, eY, eD⟩, eK⟩ := e
     subst eX
     subst eY
     subst eD
     subst eK
     go_enter Tryz.func168, Tryz.ntmps168
     go_wp2_with (go_at_call 178; refine (smeets_q _ _ _ _ _ _ _ _ _ _ eM).mono ?_; rintro e w1 ⟨rfl, hb1⟩; have hz1 := hb1.size; (try simp only [zz] at hz1); have := kf3 hb1 w.heap.size)
     exact bodyPost_ret (v := .tuple #[s3 0 256 s2, .bool true]) (by simp [results, Tryz.results168, go_sem, *]) rfl ⟨rfl, bel_a⟩
   | false =>
    simp only [if_neg (of_decide_eq_false d2)] at e
    cases d3 : decide (s3' < s1) with
    | true =>
     simp only [if_pos (of_decide_eq_true d3)] at e
     simp only [Prod.mk.injEq] at e
     obtain ⟨⟨eX, eY, eD⟩, eK⟩ := e
     subst eX
     subst eY
     subst eD
     subst eK
     go_enter Tryz.func168, Tryz.ntmps168
     go_wp2_with (go_at_call 178; refine (smeets_q _ _ _ _ _ _ _ _ _ _ eM).mono ?_; rintro e w1 ⟨rfl, hb1⟩; have hz1 := hb1.size; (try simp only [zz] at hz1); have := kf3 hb1 w.heap.size)
     exact bodyPost_ret (v := .tuple #[s3 0 (-256) s3', .bool true]) (by simp [results, Tryz.results168, go_sem, *]) rfl ⟨rfl, bel_a⟩
    | false =>
     simp only [if_neg (of_decide_eq_false d3)] at e
     simp only [Prod.mk.injEq] at e
     obtain ⟨⟨eX, eY, eD⟩, eK⟩ := e
     subst eX
     subst eY
     subst eD
     subst eK
     go_enter Tryz.func168, Tryz.ntmps168
     go_wp2_with (go_at_call 178; refine (smeets_q _ _ _ _ _ _ _ _ _ _ eM).mono ?_; rintro e w1 ⟨rfl, hb1⟩; have hz1 := hb1.size; (try simp only [zz] at hz1); have := kf3 hb1 w.heap.size)
     exact bodyPost_ret (v := .tuple #[s3 (-256) 0 s1, .bool true]) (by simp [results, Tryz.results168, go_sem, *]) rfl ⟨rfl, bel_a⟩
  | false =>
   simp only [if_neg (of_decide_eq_false d1)] at e
   cases d2 : decide (s2 < s0) with
   | true =>
    simp only [if_pos (of_decide_eq_true d2)] at e
    cases d3 : decide (s3' < s2) with
    | true =>
     simp only [if_pos (of_decide_eq_true d3)] at e
     simp only [Prod.mk.injEq] at e
     obtain ⟨⟨eX, eY, eD⟩, eK⟩ := e
     subst eX
     subst eY
     subst eD
     subst eK
     go_enter Tryz.func168, Tryz.ntmps168
     go_wp2_with (go_at_call 178; refine (smeets_q _ _ _ _ _ _ _ _ _ _ eM).mono ?_; rintro e w1 ⟨rfl, hb1⟩; have hz1 := hb1.size; (try simp only [zz] at hz1); have := kf3 hb1 w.heap.size)
     exact bodyPost_ret (v := .tuple #[s3 0 (-256) s3', .bool true]) (by simp [results, Tryz.results168, go_sem, *]) rfl ⟨rfl, bel_a⟩
    | false =>
     simp only [if_neg (of_decide_eq_false d3)] at e
     simp only [Prod.mk.injEq] at e
     obtain ⟨⟨eX, eY, eD⟩, eK⟩ := e
     subst eX
     subst eY
     subst eD
     subst eK
     go_enter Tryz.func168, Tryz.ntmps168
     go_wp2_with (go_at_call 178; refine (smeets_q _ _ _ _ _ _ _ _ _ _ eM).mono ?_; rintro e w1 ⟨rfl, hb1⟩; have hz1 := hb1.size; (try simp only [zz] at hz1); have := kf3 hb1 w.heap.size)
     exact bodyPost_ret (v := .tuple #[s3 0 256 s2, .bool true]) (by simp [results, Tryz.results168, go_sem, *]) rfl ⟨rfl, bel_a⟩
   | false =>
    simp only [if_neg (of_decide_eq_false d2)] at e
    cases d3 : decide (s3' < s0) with
    | true =>
     simp only [if_pos (of_decide_eq_true d3)] at e
     simp only [Prod.mk.injEq] at e
     obtain ⟨⟨eX, eY, eD⟩, eK⟩ := e
     subst eX
     subst eY
     subst eD
     subst eK
     go_enter Tryz.func168, Tryz.ntmps168
     go_wp2_with (go_at_call 178; refine (smeets_q _ _ _ _ _ _ _ _ _ _ eM).mono ?_; rintro e w1 ⟨rfl, hb1⟩; have hz1 := hb1.size; (try simp only [zz] at hz1); have := kf3 hb1 w.heap.size)
     exact bodyPost_ret (v := .tuple #[s3 0 (-256) s3', .bool true]) (by simp [results, Tryz.results168, go_sem, *]) rfl ⟨rfl, bel_a⟩
    | false =>
     simp only [if_neg (of_decide_eq_false d3)] at e
     simp only [Prod.mk.injEq] at e
     obtain ⟨⟨eX, eY, eD⟩, eK⟩ := e
     subst eX
     subst eY
     subst eD
     subst eK
     go_enter Tryz.func168, Tryz.ntmps168
     go_wp2_with (go_at_call 178; refine (smeets_q _ _ _ _ _ _ _ _ _ _ eM).mono ?_; rintro e w1 ⟨rfl, hb1⟩; have hz1 := hb1.size; (try simp only [zz] at hz1); have := kf3 hb1 w.heap.size)
     exact bodyPost_ret (v := .tuple #[s3 256 0 s0, .bool true]) (by simp [results, Tryz.results168, go_sem, *]) rfl ⟨rfl, bel_a⟩
structure TB (w wx : World) (V : Nat → Int) (m : Nat) : Prop where
 inn : ∀ j, j < 12 → wx.cell? ⟨w.heap.size, j, none⟩ = some (.int .i64 (V j))
 out : ∀ j, j < 12 → wx.cell? ⟨w.heap.size + 1 + 1, j, none⟩ = some (.int .i64 (if j < m then V j else 0))
 res : ∀ j, j < 12 → wx.cell? ⟨w.heap.size + 1, j, none⟩ = some (.int .i64 0)
 nfo : ∀ j, j < 12 → wx.frozen? ⟨w.heap.size + 1 + 1, j, none⟩ = false
 nfr : ∀ j, j < 12 → wx.frozen? ⟨w.heap.size + 1, j, none⟩ = false
 bel : Below w.heap.size w wx
 big : w.heap.size + 1 + 1 < wx.heap.size
theorem TB.below {w wx w1 : World} {V : Nat → Int} {m : Nat} (h : TB w wx V m) (hb : Below wx.heap.size wx w1) : TB w w1 V m := by
 have big := h.big
 exact ⟨fun j hj => (hb.cell (by simp; omega)).trans (h.inn j hj), fun j hj => (hb.cell (by simp; omega)).trans (h.out j hj), fun j hj => (hb.cell (by simp; omega)).trans (h.res j hj), fun j hj => (hb.frozen (by simp; omega)).trans (h.nfo j hj), fun j hj => (hb.frozen (by simp; omega)).trans (h.nfr j hj), h.bel.trans (hb.mono (by omega)), Nat.lt_of_lt_of_le big hb.size⟩
theorem TB.step {w w1 : World} {V : Nat → Int} {m : Nat} (h : TB w w1 V m) (hm : m < 12) : TB w (w1.setCell ⟨w.heap.size + 1 + 1, m, none⟩ (.int .i64 (V m))) V (m + 1) := by
 have big := h.big
 refine ⟨fun j hj => ?_, fun j hj => ?_, fun j hj => ?_, fun j hj => ?_, fun j hj => ?_, ?_, ?_⟩
 · rw [cset_far (by simp; omega)]; exact h.inn j hj
 · by_cases e : j = m
   · subst e; rw [cset_same (h.out j hj), if_pos (by omega)]
   · rw [cset_other (by intro q; injection q with q1 q2; exact e q2.symm), h.out j hj]
     by_cases q : j < m
     · rw [if_pos q, if_pos (by omega)]
     · rw [if_neg q, if_neg (by omega)]
 · rw [cset_far (by simp)]; exact h.res j hj
 · rw [World.frozen?_setCell]; exact h.nfo j hj
 · rw [World.frozen?_setCell]; exact h.nfr j hj
 · exact h.bel.setCell (by simp; omega) _
 · simpa using big
abbrev zeroBd : Value := .agg #[.int .i64 0, .int .i64 0, .int .i64 0, .int .i64 0, .int .i64 0, .int .i64 0, .int .i64 0, .int .i64 0, .int .i64 0, .int .i64 0, .int .i64 0, .int .i64 0]
abbrev pairW (V : Nat → Int) : Value := .agg #[.int .i64 (V 0), .int .i64 (V 1)]
abbrev zeroPair : Value := .agg #[.int .i64 0, .int .i64 0]
abbrev worldW (T P : Int) (a : Option Addr) (n c : Nat) (a' : Option Addr) (m c' : Nat) : Value := .agg #[.int .i64 T, .int .i64 P, .slice a n c, .slice a' m c']
abbrev mixS (s : Int) (p : Nat) (U : Nat → Int) : Nat → Int := fun q => if q < p then s + (q : Int) else U q
theorem Lv.fr {X : Nat → Prop} {w w' : World} {lo hi t k : Nat} {a : Option Addr} {n c : Nat} {U : Nat → Int} (h : Lv w lo hi t k a n c U) (hs : Fr X w w') (hX : ∀ b, X b → b < lo ∨ hi ≤ b) : Lv w' lo hi t k a n c U :=
 ⟨h.own.frame hs (fun b e x => by have := (h.own.lt b e).1; have := h.top b e; rcases hX b x with q | q <;> omega), h.top, Nat.le_trans h.le hs.size⟩
theorem spanNear_any (a b c d x y : Int) (w : World) :
 Calls Tryz.prog 137 #[b4 a b c d, vv x y] w fun e w' => e = .returned (vv (mn (mx x a) c) (mn (mx y b) d)) ∧ Below w.heap.size w w' := by
 have hset := cset_map
 go_enter Tryz.func137, Tryz.ntmps137
 go_wp2
 go_region_held3 (fun w' => w'.cell? ⟨w.heap.size, 0, none⟩ = some (.int .i64 a) ∧ w'.cell? ⟨w.heap.size, 1, none⟩ = some (.int .i64 b) ∧ w'.cell? ⟨w.heap.size, 2, none⟩ = some (.int .i64 c) ∧ w'.cell? ⟨w.heap.size, 3, none⟩ = some (.int .i64 d) ∧ w'.cell? ⟨w.heap.size + 1, 0, none⟩ = some (.int .i64 x) ∧ w'.cell? ⟨w.heap.size + 1, 1, none⟩ = some (.int .i64 y)) (first | (go_simp; done) | (go_keep; done)) (first
  | (go_at_call 157; refine (least_any _ _ _ _ _).mono ?_; rintro e w2 ⟨rfl, hb2⟩; obtain ⟨hc2, hf2⟩ := bcell hb2; have hl2 := blt hb2; have hz2 := hb2.size; (try simp only [zz] at hc2 hf2 hl2 hz2); (try have hq2x0 : w.heap.size < w2.heap.size := (by omega)); (try have hq2x1 : w.heap.size + 1 < w2.heap.size := (by omega)); (try have hq2x2 : w.heap.size + 1 + 1 < w2.heap.size := (by omega)))
  | (go_at_call 156; refine (greatest_any _ _ _ _ _).mono ?_; rintro e w1 ⟨rfl, hb1⟩; obtain ⟨hc1, hf1⟩ := bcell hb1; have hl1 := blt hb1; have hz1 := hb1.size; (try simp only [zz] at hc1 hf1 hl1 hz1); (try have hq1x0 : w.heap.size < w1.heap.size := (by omega)); (try have hq1x1 : w.heap.size + 1 < w1.heap.size := (by omega)); (try have hq1x2 : w.heap.size + 1 + 1 < w1.heap.size := (by omega))))
 all_goals
  go_wp2
  exact bodyPost_ret (v := vv (mn (mx x a) c) (mn (mx y b) d)) (by simp [results, Tryz.results137, go_sem, *]) rfl ⟨rfl, bel_a⟩
end Go.Proofs.YthijeiehcdoidaaGreat
