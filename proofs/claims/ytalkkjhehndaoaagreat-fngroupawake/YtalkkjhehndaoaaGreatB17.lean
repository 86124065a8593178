/- Texts of a proof. -/
import Derived.Test.YtalkkjhehndaoaaGreatB12
import Derived.Deep.RegionHeld3
import Derived.Deep.DeepCutAuto
import Derived.Test.YtalkkjhehndaoaaGreatB13
import Derived.Test.YtalkkjhehndaoaaGreatB16
import Derived.Test.YtalkkjhehndaoaaGreatB6
import Derived.Test.YtalkkjhehndaoaaGreatB4
import Derived.Deep.AppendLies
import Derived.Laws.OwnMore
set_option maxHeartbeats 16000000
set_option maxRecDepth 20000
namespace Go.Proofs.YtalkkjhehndaoaaGreat
open Go.RowKit
set_option linter.unusedVariables false
set_option linter.unusedSimpArgs false
structure Hide (p : Prop) : Prop where
 out : p
theorem tdiv_le {x B m : Int} (hm : 0 < m) (hB : 0 ≤ B) (h : -(B * m) ≤ x ∧ x ≤ B * m) : -B ≤ x.tdiv m ∧ x.tdiv m ≤ B := by
 by_cases h0 : 0 ≤ x
 · rw [Int.tdiv_eq_ediv_of_nonneg h0]
   have q1 := Int.ediv_nonneg h0 (Int.le_of_lt hm)
   exact ⟨by omega, Int.ediv_le_of_le_mul hm h.2⟩
 · have e : x.tdiv m = -((-x) / m) := by rw [← Int.tdiv_eq_ediv_of_nonneg (show 0 ≤ -x by omega), Int.neg_tdiv, Int.neg_neg]
   rw [e]
   have q1 := Int.ediv_nonneg (show 0 ≤ -x by omega) (Int.le_of_lt hm)
   have q2 := Int.ediv_le_of_le_mul hm (show -x ≤ B * m by omega)
   omega
def shareV (V W : Nat → Int) (n : Int) : Int := bif decide (V 8 = 0) then 0 else bif decide (W 8 = 0) then n else (n * W 8).tdiv (V 8 + W 8)
theorem share_bd {V W : Nat → Int} {n : Int} (h0 : 0 ≤ V 8) (h1 : 0 ≤ W 8) (hn : 0 ≤ n) : 0 ≤ shareV V W n ∧ shareV V W n ≤ n := by
 unfold shareV
 by_cases m0 : V 8 = 0
 · rw [decide_eq_true m0]; exact ⟨Int.le_refl _, hn⟩
 · rw [decide_eq_false m0]
   by_cases m1 : W 8 = 0
   · rw [decide_eq_true m1]; exact ⟨hn, Int.le_refl _⟩
   · rw [decide_eq_false m1]
     show 0 ≤ (n * W 8).tdiv (V 8 + W 8) ∧ (n * W 8).tdiv (V 8 + W 8) ≤ n
     have p0 : 0 ≤ n * W 8 := Int.mul_nonneg hn h1
     rw [Int.tdiv_eq_ediv_of_nonneg p0]
     refine ⟨Int.ediv_nonneg p0 (by omega), ?_⟩
     refine Int.ediv_le_of_le_mul (by omega) ?_
     exact Int.mul_le_mul_of_nonneg_left (by omega) hn
theorem l8Share_q (V W : Nat → Int) (n x : Int) (w : World) (h0 : 0 ≤ V 8 ∧ V 8 ≤ 1000) (h1 : 0 ≤ W 8 ∧ W 8 ≤ 1000) (hn : -30000 ≤ n ∧ n ≤ 30000) (ex : shareV V W n = x) :
 Calls Tryz.prog 117 #[bodyW V, bodyW W, .int .i64 n] w fun e w' => e = .returned (.int .i64 x) ∧ Below w.heap.size w w' := by
 have hset := cset_map
 have p := mul_bd (a := n) (b := W 8) (A := 30000) (B := 1000) (by omega) (by omega)
 have q := tdiv_bd (x := n * W 8) (B := 30000000) (V 8 + W 8) (by omega)
 have w1 : IntKind.i64.wrap (n * W 8) = n * W 8 := i64w (by omega)
 have w2 : IntKind.i64.wrap (V 8 + W 8) = V 8 + W 8 := i64w (by omega)
 have w3 : IntKind.i64.wrap ((n * W 8).tdiv (V 8 + W 8)) = (n * W 8).tdiv (V 8 + W 8) := i64w (by omega)
 by_cases m0 : V 8 = 0
 · have ex' : x = 0 := by rw [← ex]; unfold shareV; rw [decide_eq_true m0]; rfl
   subst ex'
   have e1 : (V 8 == 0) = true := by simp [m0]
   have M0 : Shut (V 8 = 0) := m0
   clear m0 ex
   go_enter Tryz.func117, Tryz.ntmps117
   go_wp2_with fail
   go_ret
   exact ⟨rfl, bel_a⟩
 · have e1 : (V 8 == 0) = false := by simp [m0]
   by_cases m1 : W 8 = 0
   · have ex' : x = n := by rw [← ex]; unfold shareV; rw [decide_eq_false m0, decide_eq_true m1]; rfl
     subst ex'
     have e2 : (W 8 == 0) = true := by simp [m1]
     have M1 : Shut (W 8 = 0) := m1
     clear m1 ex w1 w2 w3 p q
     go_enter Tryz.func117, Tryz.ntmps117
     go_wp2_with fail
     go_ret
     exact ⟨rfl, bel_a⟩
   · have ex' : (n * W 8).tdiv (V 8 + W 8) = x := by rw [← ex]; unfold shareV; rw [decide_eq_false m0, decide_eq_false m1]; rfl
     have e2 : (W 8 == 0) = false := by simp [m1]
     have e3 : ¬ V 8 + W 8 = 0 := by omega
     clear ex
     go_enter Tryz.func117, Tryz.ntmps117
     go_wp2_with fail
     go_ret
     exact ⟨by first | rfl | (rw [← ex']) | simp [ex'], bel_a⟩
def apartU (U : Nat → Int) (A B : Nat) (X Y D : Int) : Nat → Int :=
 bif decide (0 < (D - 64).tdiv 4) then
  (let U1 := bif decide (0 < U (A * 12 + 8)) then putRow U A (moveV (fun j => U (A * 12 + j)) ((-X * shareV (fun j => U (A * 12 + j)) (fun j => U (B * 12 + j)) ((D - 64).tdiv 4)).tdiv 256) ((-Y * shareV (fun j => U (A * 12 + j)) (fun j => U (B * 12 + j)) ((D - 64).tdiv 4)).tdiv 256)) else U
   bif decide (0 < U (B * 12 + 8)) then putRow U1 B (moveV (fun j => U (B * 12 + j)) ((X * shareV (fun j => U (B * 12 + j)) (fun j => U (A * 12 + j)) ((D - 64).tdiv 4)).tdiv 256) ((Y * shareV (fun j => U (B * 12 + j)) (fun j => U (A * 12 + j)) ((D - 64).tdiv 4)).tdiv 256)) else U1)
 else U
structure Ap8 (w wc : World) (A B : Nat) (X Y D : Int) (ba bb : Nat) (VA VB : Nat → Int) : Prop where
 k0 : wc.cell? ⟨w.heap.size, 0, none⟩ = some (.int .i64 (A : Int))
 k1 : wc.cell? ⟨w.heap.size, 1, none⟩ = some (.int .i64 (B : Int))
 k2 : wc.cell? ⟨w.heap.size, 2, none⟩ = some (.int .i64 X)
 k3 : wc.cell? ⟨w.heap.size, 3, none⟩ = some (.int .i64 Y)
 k4 : wc.cell? ⟨w.heap.size, 4, none⟩ = some (.int .i64 D)
 ca : ∀ j, j < 12 → wc.cell? ⟨ba, j, none⟩ = some (.int .i64 (VA j))
 cb : ∀ j, j < 12 → wc.cell? ⟨bb, j, none⟩ = some (.int .i64 (VB j))
 l0 : w.heap.size < wc.heap.size
 la : ba < wc.heap.size
 lb : bb < wc.heap.size
 ga : w.heap.size < ba
 gb : w.heap.size < bb
theorem Ap8.on {w wc w' : World} {A B : Nat} {X Y D : Int} {ba bb : Nat} {VA VB : Nat → Int} (h : Ap8 w wc A B X Y D ba bb VA VB) (hb : Below wc.heap.size wc w') : Ap8 w w' A B X Y D ba bb VA VB :=
 have k := fun j => hb.cell (p := ⟨w.heap.size, j, none⟩) h.l0
 ⟨(k 0).trans h.k0, (k 1).trans h.k1, (k 2).trans h.k2, (k 3).trans h.k3, (k 4).trans h.k4, fun j hj => (hb.cell (p := ⟨ba, j, none⟩) h.la).trans (h.ca j hj), fun j hj => (hb.cell (p := ⟨bb, j, none⟩) h.lb).trans (h.cb j hj), Nat.lt_of_lt_of_le h.l0 hb.size, Nat.lt_of_lt_of_le h.la hb.size, Nat.lt_of_lt_of_le h.lb hb.size, h.ga, h.gb⟩
theorem Ap8.fr {w wc w' : World} {A B g : Nat} {X Y D : Int} {ba bb : Nat} {VA VB : Nat → Int} (h : Ap8 w wc A B X Y D ba bb VA VB) (hs : Fr (fun b => b = g) wc w') (hg : g < w.heap.size) : Ap8 w w' A B X Y D ba bb VA VB := by
 have ga := h.ga
 have gb := h.gb
 have k := fun j => hs.cell (p := ⟨w.heap.size, j, none⟩) h.l0 (by simp; omega)
 exact ⟨(k 0).trans h.k0, (k 1).trans h.k1, (k 2).trans h.k2, (k 3).trans h.k3, (k 4).trans h.k4, fun j hj => (hs.cell (p := ⟨ba, j, none⟩) h.la (by simp; omega)).trans (h.ca j hj), fun j hj => (hs.cell (p := ⟨bb, j, none⟩) h.lb (by simp; omega)).trans (h.cb j hj), Nat.lt_of_lt_of_le h.l0 hs.size, Nat.lt_of_lt_of_le h.la hs.size, Nat.lt_of_lt_of_le h.lb hs.size, h.ga, h.gb⟩
theorem moveV_0 (V : Nat → Int) (p q : Int) : moveV V p q 0 = V 0 := rfl
theorem moveV_8 (V : Nat → Int) (p q : Int) : moveV V p q 8 = V 8 := rfl
theorem putRow_8 {U V : Nat → Int} {k i : Nat} (h : V 8 = U (k * 12 + 8)) : putRow U k V (i * 12 + 8) = U (i * 12 + 8) := by
 unfold putRow
 by_cases e : i = k
 · subst e; rw [if_pos (by omega), Nat.add_sub_cancel_left]; exact h
 · rw [if_neg (by omega)]
theorem putRow_else {U V : Nat → Int} {k i j : Nat} (e : i ≠ k) (hj : j < 12) : putRow U k V (i * 12 + j) = U (i * 12 + j) := by unfold putRow; rw [if_neg (by omega)]
theorem Bods.apart {n : Nat} {U : Nat → Int} (h : Bods n U) {A B : Nat} (hA : A < n) (hB : B < n) (hAB : A ≠ B) (X Y D : Int) : Bods n (apartU U A B X Y D) ∧ ∀ i, apartU U A B X Y D (i * 12 + 8) = U (i * 12 + 8) := by
 unfold apartU
 cases decide (0 < (D - 64).tdiv 4) with
 | false => exact ⟨h, fun i => rfl⟩
 | true =>
  simp only [cond_true]
  generalize (-X * shareV (fun j => U (A * 12 + j)) (fun j => U (B * 12 + j)) ((D - 64).tdiv 4)).tdiv 256 = p
  generalize (-Y * shareV (fun j => U (A * 12 + j)) (fun j => U (B * 12 + j)) ((D - 64).tdiv 4)).tdiv 256 = q
  generalize (X * shareV (fun j => U (B * 12 + j)) (fun j => U (A * 12 + j)) ((D - 64).tdiv 4)).tdiv 256 = r
  generalize (Y * shareV (fun j => U (B * 12 + j)) (fun j => U (A * 12 + j)) ((D - 64).tdiv 4)).tdiv 256 = s
  have key : ∀ U1 : Nat → Int, Bods n U1 → (∀ i, U1 (i * 12 + 8) = U (i * 12 + 8)) → (U1 (B * 12) = U (B * 12)) → Bods n (bif decide (0 < U (B * 12 + 8)) then putRow U1 B (moveV (fun j => U (B * 12 + j)) r s) else U1) ∧ ∀ i, (bif decide (0 < U (B * 12 + 8)) then putRow U1 B (moveV (fun j => U (B * 12 + j)) r s) else U1) (i * 12 + 8) = U (i * 12 + 8) := by
   intro U1 h1 h8 h0
   by_cases m : 0 < U (B * 12 + 8)
   · rw [decide_eq_true m]
     exact ⟨h1.put hB (move_ok r s (h.row hB) (by show U (B * 12 + 8) ≠ 0; omega)) (by rw [moveV_0, h0]; rfl), fun i => (putRow_8 (by rw [moveV_8, h8])).trans (h8 i)⟩
   · rw [decide_eq_false m]; exact ⟨h1, h8⟩
  by_cases m : 0 < U (A * 12 + 8)
  · rw [decide_eq_true m]
    refine key _ (h.put hA (move_ok p q (h.row hA) (by show U (A * 12 + 8) ≠ 0; omega)) (by rw [moveV_0]; rfl)) (fun i => putRow_8 (by rw [moveV_8])) ?_
    have := putRow_else (U := U) (V := moveV (fun j => U (A * 12 + j)) p q) (k := A) (i := B) (j := 0) (fun e => hAB e.symm) (by omega)
    simpa using this
  · rw [decide_eq_false m]; exact key U h (fun i => rfl) rfl
def apartN (C U : Nat → Int) : Nat → Nat → Int
 | 0 => U
 | k + 1 => apartU (apartN C U k) (C (k * 5)).toNat (C (k * 5 + 1)).toNat (C (k * 5 + 2)) (C (k * 5 + 3)) (C (k * 5 + 4))
structure CtOk (n m : Nat) (C : Nat → Int) : Prop where
 a : ∀ k, k < m → 0 ≤ C (k * 5) ∧ C (k * 5) < (n : Int)
 b : ∀ k, k < m → 0 ≤ C (k * 5 + 1) ∧ C (k * 5 + 1) < (n : Int)
 ne : ∀ k, k < m → C (k * 5) ≠ C (k * 5 + 1)
 x : ∀ k, k < m → -256 ≤ C (k * 5 + 2) ∧ C (k * 5 + 2) ≤ 256
 y : ∀ k, k < m → -256 ≤ C (k * 5 + 3) ∧ C (k * 5 + 3) ≤ 256
 d : ∀ k, k < m → 0 ≤ C (k * 5 + 4) ∧ C (k * 5 + 4) ≤ 102400
theorem Bods.aparts {n m : Nat} {U C : Nat → Int} (h : Bods n U) (hC : CtOk n m C) : ∀ k, k ≤ m → Bods n (apartN C U k) ∧ ∀ i, apartN C U k (i * 12 + 8) = U (i * 12 + 8)
 | 0, _ => ⟨h, fun i => rfl⟩
 | k + 1, hk => by
  obtain ⟨h1, h2⟩ := Bods.aparts h hC k (by omega)
  have ha := hC.a k (by omega)
  have hb := hC.b k (by omega)
  have hn := hC.ne k (by omega)
  obtain ⟨q1, q2⟩ := h1.apart (A := (C (k * 5)).toNat) (B := (C (k * 5 + 1)).toNat) (by omega) (by omega) (by omega) (C (k * 5 + 2)) (C (k * 5 + 3)) (C (k * 5 + 4))
  exact ⟨q1, fun i => (q2 i).trans (h2 i)⟩
theorem sqn (a : Int) : 0 ≤ a * a := by
 rcases Int.le_total 0 a with h | h
 · exact Int.mul_nonneg h h
 · have := Int.mul_nonneg (show 0 ≤ -a by omega) (show 0 ≤ -a by omega); rwa [Int.neg_mul_neg] at this
theorem abs_le_of_sq {a b : Int} (hb : 0 ≤ b) (h : a * a < (b + 1) * (b + 1)) : -b ≤ a ∧ a ≤ b := by
 have k : ∀ x : Int, x * x < (b + 1) * (b + 1) → x ≤ b := fun x hx => by
  by_cases l : b < x
  · have := Int.mul_le_mul (show b + 1 ≤ x by omega) (show b + 1 ≤ x by omega) (by omega) (by omega)
    omega
  · omega
 have k1 := k a h
 have k2 := k (-a) (by rw [Int.neg_mul_neg]; exact h)
 omega
theorem vl_ge {x y : Int} (hx : -10000000 ≤ x ∧ x ≤ 10000000) (hy : -10000000 ≤ y ∧ y ≤ 10000000) : 0 ≤ vl x y ∧ (-vl x y ≤ x ∧ x ≤ vl x y) ∧ (-vl x y ≤ y ∧ y ≤ vl x y) := by
 have h0 : 0 ≤ x * x + y * y := by have := sqn x; have := sqn y; omega
 have b1 := mul_bd (a := x) (b := x) (A := 10000000) (B := 10000000) (by omega) (by omega)
 have b2 := mul_bd (a := y) (b := y) (A := 10000000) (B := 10000000) (by omega) (by omega)
 obtain ⟨a, b, c⟩ := rootZ_is h0
 have hle := rootZ_le (n := x * x + y * y) (B := 99999999) (by omega) (by omega)
 have e : vl x y = rootZ (x * x + y * y) := by unfold vl clampZ; repeat' split <;> omega
 rw [e]
 have := sqn x
 have := sqn y
 exact ⟨a, abs_le_of_sq a (by omega), abs_le_of_sq a (by omega)⟩
theorem unit_bd {x y : Int} (hx : -10000000 ≤ x ∧ x ≤ 10000000) (hy : -10000000 ≤ y ∧ y ≤ 10000000) : (-256 ≤ ux x y ∧ ux x y ≤ 256) ∧ (-256 ≤ uy x y ∧ uy x y ≤ 256) := by
 obtain ⟨h0, hX, hY⟩ := vl_ge hx hy
 unfold ux uy
 by_cases z : vl x y = 0
 · rw [if_pos z, if_pos z]; omega
 · rw [if_neg z, if_neg z]
   exact ⟨tdiv_le (by omega) (by omega) (by omega), tdiv_le (by omega) (by omega) (by omega)⟩
def HitOk (X Y D : Int) : Prop := (-256 ≤ X ∧ X ≤ 256) ∧ (-256 ≤ Y ∧ Y ≤ 256) ∧ (0 ≤ D ∧ D ≤ 102400)
theorem rd_ok {dx dy g X Y D : Int} (hx : -10000000 ≤ dx ∧ dx ≤ 10000000) (hy : -10000000 ≤ dy ∧ dy ≤ 10000000) (hg : 0 ≤ g ∧ g ≤ 51200) (e : rdT dx dy g = ((X, Y, D), true)) : HitOk X Y D ∧ D ≤ g := by
 unfold rdT at e
 split at e
 · rename_i h
   simp only [Prod.mk.injEq, and_true] at e
   obtain ⟨rfl, rfl, rfl⟩ := e
   obtain ⟨u1, u2⟩ := unit_bd hx hy
   obtain ⟨v0, _, _⟩ := vl_ge hx hy
   have b1 := mul_bd (a := dx) (b := dx) (A := 10000000) (B := 10000000) (by omega) (by omega)
   have b2 := mul_bd (a := dy) (b := dy) (A := 10000000) (B := 10000000) (by omega) (by omega)
   have h0 : 0 ≤ dx * dx + dy * dy := by have := sqn dx; have := sqn dy; omega
   obtain ⟨a, b, c⟩ := rootZ_is h0
   have hle := rootZ_le (n := dx * dx + dy * dy) (B := 99999999) (by omega) (by omega)
   have e : vl dx dy = rootZ (dx * dx + dy * dy) := by unfold vl clampZ; repeat' split <;> omega
   have hv : vl dx dy ≤ g := by
    rw [e]
    have hs : rootZ (dx * dx + dy * dy) * rootZ (dx * dx + dy * dy) < (g + 1) * (g + 1) := by
     have : (g + 1) * (g + 1) = g * g + (2 * g + 1) := by simp only [Int.add_mul, Int.mul_add, Int.one_mul, Int.mul_one]; omega
     omega
    exact (abs_le_of_sq hg.1 hs).2
   exact ⟨⟨u1, u2, by omega, by omega⟩, by omega⟩
 · simp at e
theorem bs_ok {s0 s1 s2 s3 : Int} (h0 : 0 ≤ s0) (h1 : 0 ≤ s1) (h2 : 0 ≤ s2) (h3 : 0 ≤ s3) (hs : s0 + s1 ≤ 102400) :
 (-256 ≤ (bsT s0 s1 s2 s3).1 ∧ (bsT s0 s1 s2 s3).1 ≤ 256) ∧ (-256 ≤ (bsT s0 s1 s2 s3).2.1 ∧ (bsT s0 s1 s2 s3).2.1 ≤ 256) ∧ (0 ≤ (bsT s0 s1 s2 s3).2.2 ∧ 2 * (bsT s0 s1 s2 s3).2.2 ≤ s0 + s1) := by
 unfold bsT
 by_cases a : s1 < s0 <;> simp only [a, if_true, if_false]
 · by_cases b : s2 < s1 <;> simp only [b, if_true, if_false]
   · by_cases c : s3 < s2 <;> simp only [c, if_true, if_false] <;> omega
   · by_cases c : s3 < s1 <;> simp only [c, if_true, if_false] <;> omega
 · by_cases b : s2 < s0 <;> simp only [b, if_true, if_false]
   · by_cases c : s3 < s2 <;> simp only [c, if_true, if_false] <;> omega
   · by_cases c : s3 < s0 <;> simp only [c, if_true, if_false] <;> omega
theorem mx_ok {a b c d x y g X Y D : Int} (ha : -2600000 ≤ a ∧ a ≤ c ∧ c ≤ 2600000 ∧ c - a ≤ 51200) (hb : -2600000 ≤ b ∧ b ≤ d ∧ d ≤ 2600000) (hx : -2560000 ≤ x ∧ x ≤ 2560000) (hy : -2560000 ≤ y ∧ y ≤ 2560000) (hg : 0 ≤ g ∧ g ≤ 25600) (e : mxT a b c d x y g = ((X, Y, D), true)) : HitOk X Y D := by
 unfold mxT at e
 split at e
 · rename_i h
   unfold ptB at h
   simp only [decide_eq_true_eq] at h
   have f := bs_ok (s0 := c - x) (s1 := x - a) (s2 := d - y) (s3 := y - b) (by omega) (by omega) (by omega) (by omega) (by omega)
   simp only [Prod.mk.injEq, and_true] at e
   obtain ⟨rfl, rfl, rfl⟩ := e
   exact ⟨f.1, f.2.1, by omega, by omega⟩
 · have n1 : mn (mx x a) c ≤ c ∧ a ≤ mn (mx x a) c := by unfold mn mx; repeat' split <;> omega
   have n2 : mn (mx y b) d ≤ d ∧ b ≤ mn (mx y b) d := by unfold mn mx; repeat' split <;> omega
   exact (rd_ok (by omega) (by omega) (by omega) e).1
theorem tn_ok {m : (Int × Int × Int) × Bool} {X Y D : Int} (hm : ∀ x y d, m = ((x, y, d), true) → HitOk x y d) (e : tnT m = ((X, Y, D), true)) : HitOk X Y D := by
 obtain ⟨⟨x, y, d⟩, k⟩ := m
 unfold tnT at e
 dsimp only at e
 split at e
 · rename_i hk
   subst hk
   simp only [Prod.mk.injEq, and_true] at e
   obtain ⟨rfl, rfl, rfl⟩ := e
   obtain ⟨h1, h2, h3⟩ := hm x y d rfl
   exact ⟨by omega, by omega, h3⟩
 · simp at e
theorem bx_ok {a b c d r s t u X Y D : Int} (h1 : c - a ≤ 51200) (h2 : t - r ≤ 51200) (e : bxT a b c d r s t u = ((X, Y, D), true)) : HitOk X Y D := by
 unfold bxT at e
 split at e
 · rename_i h
   rw [Bool.and_eq_true] at h
   obtain ⟨l1, l2⟩ := h
   unfold leB at l1 l2
   simp only [decide_eq_true_eq] at l1 l2
   have f := bs_ok (s0 := c - r) (s1 := t - a) (s2 := d - s) (s3 := u - b) (by omega) (by omega) (by omega) (by omega) (by omega)
   simp only [Prod.mk.injEq, and_true] at e
   rw [e] at f
   exact ⟨f.1, f.2.1, by have := f.2.2; dsimp only at this; omega, by have := f.2.2; dsimp only at this; omega⟩
 · simp at e
theorem toT_ok {k g h x y m c d u v X Y D : Int} (e : toT k g h x y m c d u v = ((X, Y, D), true)) : HitOk X Y D := by
 unfold toT at e
 split at e
 · rename_i hz
   simp only [Bool.and_eq_true] at hz
   obtain ⟨s1, s2, p1, p2⟩ := hz
   obtain ⟨⟨x0, x1⟩, y0, y1⟩ := inB_of p1
   obtain ⟨⟨u0, u1⟩, v0, v1⟩ := inB_of p2
   rcases shB_kinds s1 with ⟨rfl, rfl, a0, a1⟩ | ⟨rfl, a0, a1, a2, a3⟩
   · rcases shB_kinds s2 with ⟨rfl, rfl, b0, b1⟩ | ⟨rfl, b0, b1, b2, b3⟩
     · have q1 : tcT 1 g 0 x y 1 c 0 u v = rdT (u - x) (v - y) (g + c) := by unfold tcT; simp
       rw [q1] at e
       exact (rd_ok (by omega) (by omega) (by omega) e).1
     · have q1 : tcT 1 g 0 x y 2 c d u v = tnT (mxT (u - c) (v - d) (u + c) (v + d) x y g) := by unfold tcT; simp
       rw [q1] at e
       exact tn_ok (fun x' y' d' e0 => mx_ok (by omega) (by omega) (by omega) (by omega) (by omega) e0) e
   · rcases shB_kinds s2 with ⟨rfl, rfl, b0, b1⟩ | ⟨rfl, b0, b1, b2, b3⟩
     · have q1 : tcT 2 g h x y 1 c 0 u v = mxT (x - g) (y - h) (x + g) (y + h) u v c := by unfold tcT; simp
       rw [q1] at e
       exact mx_ok (by omega) (by omega) (by omega) (by omega) (by omega) e
     · have q1 : tcT 2 g h x y 2 c d u v = bxT (x - g) (y - h) (x + g) (y + h) (u - c) (v - d) (u + c) (v + d) := by unfold tcT; simp
       rw [q1] at e
       exact bx_ok (by omega) (by omega) e
 · simp at e
def Fives (P : Int → Int → Int → Int → Int → Prop) (l : List Int) : Prop := ∃ m, l.length = m * 5 ∧ ∀ k, k < m → P (ofL l (k * 5)) (ofL l (k * 5 + 1)) (ofL l (k * 5 + 2)) (ofL l (k * 5 + 3)) (ofL l (k * 5 + 4))
theorem ofL_l {l r : List Int} {q : Nat} (h : q < l.length) : ofL (l ++ r) q = ofL l q := by
 unfold ofL; rw [List.getD_eq_getElem?_getD, List.getD_eq_getElem?_getD, List.getElem?_append_left h]
theorem ofL_r {l r : List Int} {q : Nat} (h : l.length ≤ q) : ofL (l ++ r) q = ofL r (q - l.length) := by
 unfold ofL; rw [List.getD_eq_getElem?_getD, List.getD_eq_getElem?_getD, List.getElem?_append_right h]
theorem Fives.nil (P : Int → Int → Int → Int → Int → Prop) : Fives P [] := ⟨0, rfl, fun k h => by omega⟩
theorem Fives.one {P : Int → Int → Int → Int → Int → Prop} {a b x y d : Int} (h : P a b x y d) : Fives P [a, b, x, y, d] := by
 refine ⟨1, rfl, fun k hk => ?_⟩
 obtain rfl : k = 0 := by omega
 exact h
theorem Fives.app {P : Int → Int → Int → Int → Int → Prop} {l r : List Int} (h1 : Fives P l) (h2 : Fives P r) : Fives P (l ++ r) := by
 obtain ⟨m, e1, p1⟩ := h1
 obtain ⟨m', e2, p2⟩ := h2
 refine ⟨m + m', by rw [List.length_append, e1, e2]; omega, fun k hk => ?_⟩
 by_cases c : k < m
 · rw [ofL_l (by omega), ofL_l (by omega), ofL_l (by omega), ofL_l (by omega), ofL_l (by omega)]
   exact p1 k c
 · rw [ofL_r (by omega), ofL_r (by omega), ofL_r (by omega), ofL_r (by omega), ofL_r (by omega), e1, show k * 5 - m * 5 = (k - m) * 5 by omega, show k * 5 + 1 - m * 5 = (k - m) * 5 + 1 by omega, show k * 5 + 2 - m * 5 = (k - m) * 5 + 2 by omega, show k * 5 + 3 - m * 5 = (k - m) * 5 + 3 by omega, show k * 5 + 4 - m * 5 = (k - m) * 5 + 4 by omega]
   exact p2 (k - m) (by omega)
def CtP (n : Nat) (a b x y d : Int) : Prop := 0 ≤ a ∧ a < b ∧ b < (n : Int) ∧ HitOk x y d
theorem conOne_ok (C : Nat → Nat → Int) {n i k : Nat} (hk : k < n) : Fives (CtP n) (conOne C i k) := by
 unfold conOne
 split
 · rename_i h
   unfold conB at h
   simp only [Bool.and_eq_true, decide_eq_true_eq] at h
   have e : toT (C 1 i) (C 2 i) (C 3 i) (C 4 i) (C 5 i) (C 1 k) (C 2 k) (C 3 k) (C 4 k) (C 5 k) = (((tcH C i k).1.1, (tcH C i k).1.2.1, (tcH C i k).1.2.2), true) := by
    show tcH C i k = _
    rw [← h.2.2]
   exact Fives.one ⟨by omega, by omega, by omega, toT_ok e⟩
 · exact Fives.nil _
theorem conIn_ok (C : Nat → Nat → Int) {n i : Nat} : ∀ k, k ≤ n → Fives (CtP n) (conIn C i k)
 | 0, _ => Fives.nil _
 | k + 1, h => (conIn_ok C k (by omega)).app (conOne_ok C (by omega))
theorem conOut_ok (C : Nat → Nat → Int) {n : Nat} : ∀ i, Fives (CtP n) (conOut C n i)
 | 0 => Fives.nil _
 | i + 1 => (conOut_ok C i).app (conIn_ok C n (Nat.le_refl _))
theorem Fives.ct {n m : Nat} {l : List Int} (h : Fives (CtP n) l) (e : l.length = m * 5) : CtOk n m (ofL l) := by
 obtain ⟨m', e', p⟩ := h
 obtain rfl : m' = m := by omega
 exact ⟨fun k hk => ⟨(p k hk).1, by have := (p k hk).2; omega⟩, fun k hk => ⟨by have := p k hk; unfold CtP at this; omega, (p k hk).2.2.1⟩, fun k hk => by have := (p k hk).2.1; omega, fun k hk => (p k hk).2.2.2.1, fun k hk => (p k hk).2.2.2.2.1, fun k hk => (p k hk).2.2.2.2.2⟩
theorem con_ct (C : Nat → Nat → Int) {n m : Nat} (e : (conL C n).length = m * 5) : CtOk n m (ofL (conL C n)) := (conOut_ok C n).ct e
structure LsV (w wr : World) (t k : Nat) (a : Option Addr) (m c : Nat) (l : List Int) : Prop where
 bel : Below w.heap.size w wr
 len : l.length = m * k
 own : OwnL wr w.heap.size t k (.slice a m c) m (ofL l)
theorem LsV.below {w wr w' : World} {t k m c : Nat} {a : Option Addr} {l : List Int} (h : LsV w wr t k a m c l) (hb : Below wr.heap.size wr w') : LsV w w' t k a m c l := ⟨h.bel.trans (hb.mono h.bel.size), h.len, h.own.below hb⟩
theorem LsV.push {w wr w1 : World} {t k m c c' : Nat} {a a' : Option Addr} {l x : List Int} (h : LsV w wr t k a m c l) (hx : x.length = k) (hg : wr.grownBy w1 (Value.slice a m c).ownBlock) (ho : OwnL w1 w.heap.size t k (.slice a' (m + 1) c') (m + 1) (cat (m * k) (ofL l) (ofL x))) : LsV w w1 t k a' (m + 1) c' (l ++ x) :=
 ⟨h.bel.grown hg h.bel.size (fun b e => (h.own.lt b e).1), by rw [List.length_append, h.len, hx, Nat.succ_mul], by rw [← cat_ofL, h.len]; exact ho⟩
theorem LsV.new (w : World) (t k : Nat) : LsV w (w.alloc (.cells #[] t)) t k (some ⟨w.heap.size, 0, none⟩) 0 0 [] :=
 ⟨(Below.refl _ _).alloc (Nat.le_refl _) _, by simp, ⟨by simp [numL], .inr ⟨w.heap.size, 0, #[], rfl, Nat.le_refl _, Go.Deep.blk_alloc_new _ _, Nat.le_refl _, Nat.zero_le _, by simp, by simp [numL]⟩⟩⟩
theorem LsV.nil (w : World) (t k : Nat) : LsV w w t k none 0 0 [] := ⟨Below.refl _ _, by simp, OwnL.nil _ _ _ _ _⟩
theorem LsV.out {w0 w wr : World} {t k m c : Nat} {a : Option Addr} {l : List Int} (h : LsV w wr t k a m c l) (hb : Below w0.heap.size w0 w) : OutL w0 wr t k a m c (ofL l) := ⟨hb.trans (h.bel.mono hb.size), h.own.base hb.size⟩
structure Nb (w : World) (b k : Nat) (V : Nat → Int) : Prop where
 c : ∀ j, j < k → w.cell? ⟨b, j, none⟩ = some (.int .i64 (V j))
 f : ∀ o, w.frozen? ⟨b, o, none⟩ = false
 l : b < w.heap.size
theorem Nb.on {w w' : World} {b k : Nat} {V : Nat → Int} (h : Nb w b k V) (hb : Below w.heap.size w w') : Nb w' b k V :=
 ⟨fun j hj => (hb.cell (p := ⟨b, j, none⟩) h.l).trans (h.c j hj), fun o => (hb.frozen (p := ⟨b, o, none⟩) h.l).trans (h.f o), Nat.lt_of_lt_of_le h.l hb.size⟩
theorem Nb.fr {w w' : World} {b k : Nat} {V : Nat → Int} {X : Nat → Prop} (h : Nb w b k V) (hs : Fr X w w') (hx : ¬ X b) : Nb w' b k V :=
 ⟨fun j hj => (hs.cell (p := ⟨b, j, none⟩) h.l hx).trans (h.c j hj), fun o => (hs.frozen (p := ⟨b, o, none⟩) h.l hx).trans (h.f o), Nat.lt_of_lt_of_le h.l hs.size⟩
theorem Nb.dr {w : World} {b k : Nat} {V : Nat → Int} (h : Nb w b k V) : Nb w.drew b k V := ⟨fun j hj => h.c j hj, fun o => h.f o, h.l⟩
theorem Nb.congr {w : World} {b k : Nat} {V W : Nat → Int} (h : Nb w b k V) (e : ∀ j, j < k → V j = W j) : Nb w b k W := ⟨fun j hj => by rw [← e j hj]; exact h.c j hj, h.f, h.l⟩
theorem Nb.set {w : World} {b k : Nat} {V : Nat → Int} (h : Nb w b k V) (j : Nat) (hj : j < k) (x : Int) : Nb (w.setCell ⟨b, j, none⟩ (.int .i64 x)) b k (fun i => if i = j then x else V i) := by
 have h1 := h.c j hj
 refine ⟨fun i hi => ?_, fun o => ?_, by simp; exact h.l⟩
 · by_cases e : i = j
   · subst e; rw [if_pos rfl]; exact World.cell?_setCell_same _ _ _ h1
   · rw [if_neg e, World.cell?_setCell_other _ _ _ _ (by intro h; simp only [Addr.mk.injEq] at h; omega)]; exact h.c i hi
 · have := h.f o; simp [this]
structure LV (w wr : World) (t g cap n : Nat) (xs : List Value) : Prop where
 bel : Below w.heap.size w wr
 len : xs.length = n
 own : wr.ownsRow w.heap.size t 1 (.slice (some ⟨g, 0, none⟩) n cap) n xs
theorem LV.new {w wr : World} (t : Nat) (h : Below w.heap.size w wr) {s : Nat} (e : wr.heap.size = s) : LV w (wr.alloc (.cells #[] t)) t s 0 0 [] := by
 subst e
 exact ⟨h.alloc h.size _, rfl, ⟨rfl, .inr ⟨wr.heap.size, 0, #[], rfl, h.size, Go.Deep.blk_alloc_new _ _, Nat.le_refl _, Nat.zero_le _, by simp, by simp⟩⟩⟩
theorem LV.lt {w wr : World} {t g cap n : Nat} {xs : List Value} (h : LV w wr t g cap n xs) : w.heap.size ≤ g ∧ g < wr.heap.size := World.ownsRow.lt h.own g rfl
theorem LV.fro {w wr : World} {t g cap n : Nat} {xs : List Value} (h : LV w wr t g cap n xs) (j : Nat) : wr.frozen? ⟨g, j, none⟩ = false := World.ownsRow.frozenAt h.own j
theorem LV.cell {w wr : World} {t g cap n : Nat} {xs : List Value} (h : LV w wr t g cap n xs) {j : Nat} {u : Value} (hu : xs[j]? = some u) : wr.cell? ⟨g, j, none⟩ = some u := by
 have hj : j < n := by rw [← h.len]; exact (List.getElem?_eq_some_iff.1 hu).1
 rw [World.ownsRow.cellAt h.own j (by omega), hu]
theorem LV.on {w wr w' : World} {t g cap n : Nat} {xs : List Value} (h : LV w wr t g cap n xs) (hb : Below wr.heap.size wr w') : LV w w' t g cap n xs :=
 ⟨h.bel.trans (hb.mono h.bel.size), h.len, World.ownsRow.kept h.own (below_grown hb rfl) (.inr (by simp [Value.ownBlock]))⟩
theorem LV.dr {w wr : World} {t g cap n : Nat} {xs : List Value} (h : LV w wr t g cap n xs) : LV w wr.drew t g cap n xs := h.on (Below.drew (Below.refl _ _))
theorem LV.set {w wr : World} {t g cap n : Nat} {xs : List Value} (h : LV w wr t g cap n xs) (j : Nat) (u : Value) : LV w (wr.setCell ⟨g, j, none⟩ u) t g cap n (xs.set j u) :=
 ⟨h.bel.setCell h.lt.1 _, by rw [List.length_set]; exact h.len, (World.ownsRow.stored h.own j u).1⟩
theorem LV.ne {w wr : World} {t g cap n : Nat} {xs : List Value} (h : LV w wr t g cap n xs) {b : Nat} (hb : w.heap.size ≤ b) (hn : b ≠ g) (j : Nat) (u : Value) : LV w (wr.setCell ⟨b, j, none⟩ u) t g cap n xs :=
 ⟨h.bel.setCell hb _, h.len, World.ownsRow.kept h.own (row := some b) (by
  have hs := Fr.setCell (X := fun k => k = b) (w := wr) (p := ⟨b, j, none⟩) rfl u
  exact ⟨hs.os, hs.tape, hs.output, hs.size, fun k hk hne => hs.block k hk (fun e => hne (by rw [e]))⟩) (.inr (by simp [Value.ownBlock]; exact fun e => hn e.symm))⟩
theorem LV.kept {w wr w' : World} {t g cap n row : Nat} {xs : List Value} (h : LV w wr t g cap n xs) (hg : wr.grownBy w' (some row)) (hb : w.heap.size ≤ row) (hn : row ≠ g) : LV w w' t g cap n xs :=
 ⟨h.bel.grown hg h.bel.size (fun b e => by cases e; exact hb), h.len, World.ownsRow.kept h.own hg (.inr (by simp [Value.ownBlock]; exact fun e => hn e.symm))⟩
theorem wpList_push {P : Program} {ops : Array Oper} {rest : List Oper} {o : Oper} {a : Act} {Q : Exit → Act → World → Prop} {w wr wx : World} (hgd : o.guard = none) (s x : Operand) (t : TypeId)
 (ho : o.op = .call { callee := .builtin .append, args := #[s, x], argTypes := #[t, t] })
 (e bytes : Nat) (z : Value) (ht : P.underlying t = some (.slice e)) (hinfo : (P.info? e).map (fun i => (i.zero, i.size, i.bytes)) = some (some z, 1, bytes)) (hzs : z.cells.size = 1) (hby : bytes ≤ 8)
 (g cap n : Nat) (xs : List Value) (hs : a.eval s = .slice (some ⟨g, 0, none⟩) n cap) (h : LV w wr e g cap n xs) (hb : Below wr.heap.size wr wx) (b : Nat) (hx : a.eval x = .slice (some ⟨b, 0, none⟩) 1 1) (u : Value) (hu : wx.cell? ⟨b, 0, none⟩ = some u) (h1 : u.oneCell' = true)
 (hn : n ≤ 1048576) (hK : ∀ g' cap' w', LV w w' e g' cap' (n + 1) (xs ++ [u]) → wx.grownBy w' (some g) → (g' = g ∨ g' = wx.heap.size) → wpList P ops Q rest (a.put o.dst (.slice (some ⟨g', 0, none⟩) (n + 1) cap')) w') : wpList P ops Q (o :: rest) a wx := by
 obtain ⟨i, hi, hzz⟩ := Option.map_eq_some_iff.1 hinfo
 simp only [Prod.mk.injEq] at hzz
 obtain ⟨hz, hsz, hb8⟩ := hzz
 have hw := h.on hb
 refine wpList_append_lies wx hgd s x t ho w.heap.size e i z 1 bytes ht hi hz hsz hb8 hzs (by decide) (.slice (some ⟨g, 0, none⟩) n cap) n xs hs hw.own ⟨b, 0, none⟩ 1 1 [u] hx rfl ?_ ?_ (by decide) (by unfold maxLen; omega) ?_ hw.bel.size _ rfl ?_
 · intro j v hv
   cases j with
   | zero => simp at hv; subst hv; exact hu
   | succ j => simp at hv
 · intro v hv; simp at hv; rw [hv]; exact h1
 · have : (n + 1) * bytes ≤ (n + 1) * 8 := Nat.mul_le_mul_left _ hby
   omega
 · intro g' cap' w' r1 r2 r3 r4
   refine hK g' cap' w' ⟨hw.bel.grown r2 hw.bel.size (fun b e => by cases e; exact hw.lt.1), by rw [List.length_append, hw.len]; rfl, r1⟩ r2 ?_
   rcases r3 with r3 | r3
   · simp [Value.ownBlock] at r3; exact .inl r3.symm
   · exact .inr r3
def IV (l : List Int) : List Value := l.map (Value.int .i64)
theorem IV_app (l : List Int) (x : Int) : IV l ++ [.int .i64 x] = IV (l ++ [x]) := by unfold IV; rw [List.map_append]; rfl
theorem IV_set (l : List Int) (j : Nat) (x : Int) : (IV l).set j (.int .i64 x) = IV (l.set j x) := by unfold IV; rw [List.map_set]
theorem IV_len (l : List Int) : (IV l).length = l.length := by unfold IV; rw [List.length_map]
theorem IV_get {l : List Int} {j : Nat} (h : j < l.length) : (IV l)[j]? = some (.int .i64 (ofL l j)) := by
 unfold IV ofL
 rw [List.getElem?_map, List.getElem?_eq_getElem h, List.getD_eq_getElem?_getD, List.getElem?_eq_getElem h]
 rfl
theorem LV.flat {w wr : World} {t g cap n : Nat} {l : List Int} (h : LV w wr t g cap n (IV l)) : Flat wr (some ⟨g, 0, none⟩) (n * 1) (ofL l) := by
 intro h0
 refine ⟨g, 0, rfl, h.lt.2, fun j hj => ?_⟩
 rw [Nat.zero_add]
 have hl := h.len
 rw [IV_len] at hl
 exact h.cell (IV_get (by omega))
theorem LV.ic {w wr : World} {t g cap n : Nat} {l : List Int} (h : LV w wr t g cap n (IV l)) {j : Nat} (hj : j < n) : wr.cell? ⟨g, j, none⟩ = some (.int .i64 (ofL l j)) := by
 have hl := h.len
 rw [IV_len] at hl
 exact h.cell (IV_get (by omega))
abbrev zcInt : Value := .int .i64 0
theorem infoInt : (Tryz.prog.info? 3).map (fun i => (i.zero, i.size, i.bytes)) = some (some zcInt, 1, 8) := by kernel_rfl
end Go.Proofs.YtalkkjhehndaoaaGreat
