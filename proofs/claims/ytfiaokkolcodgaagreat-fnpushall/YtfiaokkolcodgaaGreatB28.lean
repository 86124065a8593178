/- Texts of a proof. -/
import Derived.Test.YtfiaokkolcodgaaGreatB24
import Derived.Test.YtfiaokkolcodgaaGreatB23
import Derived.Test.YtfiaokkolcodgaaGreatB4
import Derived.Test.YtfiaokkolcodgaaGreatB1
import Derived.Test.YtfiaokkolcodgaaGreatB2
import Derived.Deep.RegionHeld3
import Derived.Deep.DeepCutAuto
set_option maxHeartbeats 16000000
set_option maxRecDepth 20000
namespace Go.Proofs.YtfiaokkolcodgaaGreat
open Go.RowKit
set_option linter.unusedVariables false
set_option linter.unusedSimpArgs false
theorem sqn (a : Int) : 0 ≤ a * a := by
 rcases Int.le_total 0 a with h | h
 · exact Int.mul_nonneg h h
 · have := Int.mul_nonneg (show 0 ≤ -a by omega) (show 0 ≤ -a by omega); rwa [Int.neg_mul_neg] at this
theorem abs_le_of_sq {a b : Int} (hb : 0 ≤ b) (h : a * a < (b + 1) * (b + 1)) : -b ≤ a ∧ a ≤ b := by
 have k : ∀ x : Int, x * x < (b + 1) * (b + 1) → x ≤ b := fun x hx => by
  by_cases l : b < x
  · have := Int.mul_le_mul (show b + 1 ≤ x by omega) (show b + 1 ≤ x by omega) (by omega) (by omega)
    omega
  · omega
 have k1 := k a h
 have k2 := k (-a) (by rw [Int.neg_mul_neg]; exact h)
 omega
theorem vl_ge {x y : Int} (hx : -10000000 ≤ x ∧ x ≤ 10000000) (hy : -10000000 ≤ y ∧ y ≤ 10000000) : 0 ≤ vl x y ∧ (-vl x y ≤ x ∧ x ≤ vl x y) ∧ (-vl x y ≤ y ∧ y ≤ vl x y) := by
 have h0 : 0 ≤ x * x + y * y := by have := sqn x; have := sqn y; omega
 have b1 := mul_bd (a := x) (b := x) (A := 10000000) (B := 10000000) (by omega) (by omega)
 have b2 := mul_bd (a := y) (b := y) (A := 10000000) (B := 10000000) (by omega) (by omega)
 obtain ⟨a, b, c⟩ := rootZ_is h0
 have hle := rootZ_le (n := x * x + y * y) (B := 99999999) (by omega) (by omega)
 have e : vl x y = rootZ (x * x + y * y) := by unfold vl clampZ; repeat' split <;> omega
 rw [e]
 have := sqn x
 have := sqn y
 exact ⟨a, abs_le_of_sq a (by omega), abs_le_of_sq a (by omega)⟩
theorem unit_bd {x y : Int} (hx : -10000000 ≤ x ∧ x ≤ 10000000) (hy : -10000000 ≤ y ∧ y ≤ 10000000) : (-256 ≤ ux x y ∧ ux x y ≤ 256) ∧ (-256 ≤ uy x y ∧ uy x y ≤ 256) := by
 obtain ⟨h0, hX, hY⟩ := vl_ge hx hy
 unfold ux uy
 by_cases z : vl x y = 0
 · rw [if_pos z, if_pos z]; omega
 · rw [if_neg z, if_neg z]
   exact ⟨tdiv_le (by omega) (by omega) (by omega), tdiv_le (by omega) (by omega) (by omega)⟩
def HitOk (X Y D : Int) : Prop := (-256 ≤ X ∧ X ≤ 256) ∧ (-256 ≤ Y ∧ Y ≤ 256) ∧ (0 ≤ D ∧ D ≤ 102400)
theorem rd_ok {dx dy g X Y D : Int} (hx : -10000000 ≤ dx ∧ dx ≤ 10000000) (hy : -10000000 ≤ dy ∧ dy ≤ 10000000) (hg : 0 ≤ g ∧ g ≤ 51200) (e : rdT dx dy g = ((X, Y, D), true)) : HitOk X Y D ∧ D ≤ g := by
 unfold rdT at e
 split at e
 · rename_i h
   simp only [Prod.mk.injEq, and_true] at e
   obtain ⟨rfl, rfl, rfl⟩ := e
   obtain ⟨u1, u2⟩ := unit_bd hx hy
   obtain ⟨v0, _, _⟩ := vl_ge hx hy
   have b1 := mul_bd (a := dx) (b := dx) (A := 10000000) (B := 10000000) (by omega) (by omega)
   have b2 := mul_bd (a := dy) (b := dy) (A := 10000000) (B := 10000000) (by omega) (by omega)
   have h0 : 0 ≤ dx * dx + dy * dy := by have := sqn dx; have := sqn dy; omega
   obtain ⟨a, b, c⟩ := rootZ_is h0
   have hle := rootZ_le (n := dx * dx + dy * dy) (B := 99999999) (by omega) (by omega)
   have e : vl dx dy = rootZ (dx * dx + dy * dy) := by unfold vl clampZ; repeat' split <;> omega
   have hv : vl dx dy ≤ g := by
    rw [e]
    have hs : rootZ (dx * dx + dy * dy) * rootZ (dx * dx + dy * dy) < (g + 1) * (g + 1) := by
     have : (g + 1) * (g + 1) = g * g + (2 * g + 1) := by simp only [Int.add_mul, Int.mul_add, Int.one_mul, Int.mul_one]; omega
     omega
    exact (abs_le_of_sq hg.1 hs).2
   exact ⟨⟨u1, u2, by omega, by omega⟩, by omega⟩
 · simp at e
theorem bs_ok {s0 s1 s2 s3 : Int} (h0 : 0 ≤ s0) (h1 : 0 ≤ s1) (h2 : 0 ≤ s2) (h3 : 0 ≤ s3) (hs : s0 + s1 ≤ 102400) :
 (-256 ≤ (bsT s0 s1 s2 s3).1 ∧ (bsT s0 s1 s2 s3).1 ≤ 256) ∧ (-256 ≤ (bsT s0 s1 s2 s3).2.1 ∧ (bsT s0 s1 s2 s3).2.1 ≤ 256) ∧ (0 ≤ (bsT s0 s1 s2 s3).2.2 ∧ 2 * (bsT s0 s1 s2 s3).2.2 ≤ s0 + s1) := by
 unfold bsT
 by_cases a : s1 < s0 <;> simp only [a, if_true, if_false]
 · by_cases b : s2 < s1 <;> simp only [b, if_true, if_false]
   · by_cases c : s3 < s2 <;> simp only [c, if_true, if_false] <;> omega
   · by_cases c : s3 < s1 <;> simp only [c, if_true, if_false] <;> omega
 · by_cases b : s2 < s0 <;> simp only [b, if_true, if_false]
   · by_cases c : s3 < s2 <;> simp only [c, if_true, if_false] <;> omega
   · by_cases c : s3 < s0 <;> simp only [c, if_true, if_false] <;> omega
theorem mx_ok {a b c d x y g X Y D : Int} (ha : -2600000 ≤ a ∧ a ≤ c ∧ c ≤ 2600000 ∧ c - a ≤ 51200) (hb : -2600000 ≤ b ∧ b ≤ d ∧ d ≤ 2600000) (hx : -2560000 ≤ x ∧ x ≤ 2560000) (hy : -2560000 ≤ y ∧ y ≤ 2560000) (hg : 0 ≤ g ∧ g ≤ 25600) (e : mxT a b c d x y g = ((X, Y, D), true)) : HitOk X Y D := by
 unfold mxT at e
 split at e
 · rename_i h
   unfold ptB at h
   simp only [decide_eq_true_eq] at h
   have f := bs_ok (s0 := c - x) (s1 := x - a) (s2 := d - y) (s3 := y - b) (by omega) (by omega) (by omega) (by omega) (by omega)
   simp only [Prod.mk.injEq, and_true] at e
   obtain ⟨rfl, rfl, rfl⟩ := e
   exact ⟨f.1, f.2.1, by omega, by omega⟩
 · have n1 : mn (mx x a) c ≤ c ∧ a ≤ mn (mx x a) c := by unfold mn mx; repeat' split <;> omega
   have n2 : mn (mx y b) d ≤ d ∧ b ≤ mn (mx y b) d := by unfold mn mx; repeat' split <;> omega
   exact (rd_ok (by omega) (by omega) (by omega) e).1
theorem tn_ok {m : (Int × Int × Int) × Bool} {X Y D : Int} (hm : ∀ x y d, m = ((x, y, d), true) → HitOk x y d) (e : tnT m = ((X, Y, D), true)) : HitOk X Y D := by
 obtain ⟨⟨x, y, d⟩, k⟩ := m
 unfold tnT at e
 dsimp only at e
 split at e
 · rename_i hk
   subst hk
   simp only [Prod.mk.injEq, and_true] at e
   obtain ⟨rfl, rfl, rfl⟩ := e
   obtain ⟨h1, h2, h3⟩ := hm x y d rfl
   exact ⟨by omega, by omega, h3⟩
 · simp at e
theorem bx_ok {a b c d r s t u X Y D : Int} (h1 : c - a ≤ 51200) (h2 : t - r ≤ 51200) (e : bxT a b c d r s t u = ((X, Y, D), true)) : HitOk X Y D := by
 unfold bxT at e
 split at e
 · rename_i h
   rw [Bool.and_eq_true] at h
   obtain ⟨l1, l2⟩ := h
   unfold leB at l1 l2
   simp only [decide_eq_true_eq] at l1 l2
   have f := bs_ok (s0 := c - r) (s1 := t - a) (s2 := d - s) (s3 := u - b) (by omega) (by omega) (by omega) (by omega) (by omega)
   simp only [Prod.mk.injEq, and_true] at e
   rw [e] at f
   exact ⟨f.1, f.2.1, by have := f.2.2; dsimp only at this; omega, by have := f.2.2; dsimp only at this; omega⟩
 · simp at e
theorem toT_ok {k g h x y m c d u v X Y D : Int} (e : toT k g h x y m c d u v = ((X, Y, D), true)) : HitOk X Y D := by
 unfold toT at e
 split at e
 · rename_i hz
   simp only [Bool.and_eq_true] at hz
   obtain ⟨s1, s2, p1, p2⟩ := hz
   obtain ⟨⟨x0, x1⟩, y0, y1⟩ := inB_of p1
   obtain ⟨⟨u0, u1⟩, v0, v1⟩ := inB_of p2
   rcases shB_kinds s1 with ⟨rfl, rfl, a0, a1⟩ | ⟨rfl, a0, a1, a2, a3⟩
   · rcases shB_kinds s2 with ⟨rfl, rfl, b0, b1⟩ | ⟨rfl, b0, b1, b2, b3⟩
     · have q1 : tcT 1 g 0 x y 1 c 0 u v = rdT (u - x) (v - y) (g + c) := by unfold tcT; simp
       rw [q1] at e
       exact (rd_ok (by omega) (by omega) (by omega) e).1
     · have q1 : tcT 1 g 0 x y 2 c d u v = tnT (mxT (u - c) (v - d) (u + c) (v + d) x y g) := by unfold tcT; simp
       rw [q1] at e
       exact tn_ok (fun x' y' d' e0 => mx_ok (by omega) (by omega) (by omega) (by omega) (by omega) e0) e
   · rcases shB_kinds s2 with ⟨rfl, rfl, b0, b1⟩ | ⟨rfl, b0, b1, b2, b3⟩
     · have q1 : tcT 2 g h x y 1 c 0 u v = mxT (x - g) (y - h) (x + g) (y + h) u v c := by unfold tcT; simp
       rw [q1] at e
       exact mx_ok (by omega) (by omega) (by omega) (by omega) (by omega) e
     · have q1 : tcT 2 g h x y 2 c d u v = bxT (x - g) (y - h) (x + g) (y + h) (u - c) (v - d) (u + c) (v + d) := by unfold tcT; simp
       rw [q1] at e
       exact bx_ok (by omega) (by omega) e
 · simp at e
def Fives (P : Int → Int → Int → Int → Int → Prop) (l : List Int) : Prop := ∃ m, l.length = m * 5 ∧ ∀ k, k < m → P (ofL l (k * 5)) (ofL l (k * 5 + 1)) (ofL l (k * 5 + 2)) (ofL l (k * 5 + 3)) (ofL l (k * 5 + 4))
theorem ofL_l {l r : List Int} {q : Nat} (h : q < l.length) : ofL (l ++ r) q = ofL l q := by
 unfold ofL; rw [List.getD_eq_getElem?_getD, List.getD_eq_getElem?_getD, List.getElem?_append_left h]
theorem ofL_r {l r : List Int} {q : Nat} (h : l.length ≤ q) : ofL (l ++ r) q = ofL r (q - l.length) := by
 unfold ofL; rw [List.getD_eq_getElem?_getD, List.getD_eq_getElem?_getD, List.getElem?_append_right h]
theorem Fives.nil (P : Int → Int → Int → Int → Int → Prop) : Fives P [] := ⟨0, rfl, fun k h => by omega⟩
theorem Fives.one {P : Int → Int → Int → Int → Int → Prop} {a b x y d : Int} (h : P a b x y d) : Fives P [a, b, x, y, d] := by
 refine ⟨1, rfl, fun k hk => ?_⟩
 obtain rfl : k = 0 := by omega
 exact h
theorem Fives.app {P : Int → Int → Int → Int → Int → Prop} {l r : List Int} (h1 : Fives P l) (h2 : Fives P r) : Fives P (l ++ r) := by
 obtain ⟨m, e1, p1⟩ := h1
 obtain ⟨m', e2, p2⟩ := h2
 refine ⟨m + m', by rw [List.length_append, e1, e2]; omega, fun k hk => ?_⟩
 by_cases c : k < m
 · rw [ofL_l (by omega), ofL_l (by omega), ofL_l (by omega), ofL_l (by omega), ofL_l (by omega)]
   exact p1 k c
 · rw [ofL_r (by omega), ofL_r (by omega), ofL_r (by omega), ofL_r (by omega), ofL_r (by omega), e1, show k * 5 - m * 5 = (k - m) * 5 by omega, show k * 5 + 1 - m * 5 = (k - m) * 5 + 1 by omega, show k * 5 + 2 - m * 5 = (k - m) * 5 + 2 by omega, show k * 5 + 3 - m * 5 = (k - m) * 5 + 3 by omega, show k * 5 + 4 - m * 5 = (k - m) * 5 + 4 by omega]
   exact p2 (k - m) (by omega)
def CtP (n : Nat) (a b x y d : Int) : Prop := 0 ≤ a ∧ a < b ∧ b < (n : Int) ∧ HitOk x y d
theorem conOne_ok (C : Nat → Nat → Int) {n i k : Nat} (hk : k < n) : Fives (CtP n) (conOne C i k) := by
 unfold conOne
 split
 · rename_i h
   unfold conB at h
   simp only [Bool.and_eq_true, decide_eq_true_eq] at h
   have e : toT (C 1 i) (C 2 i) (C 3 i) (C 4 i) (C 5 i) (C 1 k) (C 2 k) (C 3 k) (C 4 k) (C 5 k) = (((tcH C i k).1.1, (tcH C i k).1.2.1, (tcH C i k).1.2.2), true) := by
    show tcH C i k = _
    rw [← h.2.2]
   exact Fives.one ⟨by omega, by omega, by omega, toT_ok e⟩
 · exact Fives.nil _
theorem conIn_ok (C : Nat → Nat → Int) {n i : Nat} : ∀ k, k ≤ n → Fives (CtP n) (conIn C i k)
 | 0, _ => Fives.nil _
 | k + 1, h => (conIn_ok C k (by omega)).app (conOne_ok C (by omega))
theorem conOut_ok (C : Nat → Nat → Int) {n : Nat} : ∀ i, Fives (CtP n) (conOut C n i)
 | 0 => Fives.nil _
 | i + 1 => (conOut_ok C i).app (conIn_ok C n (Nat.le_refl _))
theorem Fives.ct {n m : Nat} {l : List Int} (h : Fives (CtP n) l) (e : l.length = m * 5) : CtOk n m (ofL l) := by
 obtain ⟨m', e', p⟩ := h
 obtain rfl : m' = m := by omega
 exact ⟨fun k hk => ⟨(p k hk).1, by have := (p k hk).2; omega⟩, fun k hk => ⟨by have := p k hk; unfold CtP at this; omega, (p k hk).2.2.1⟩, fun k hk => by have := (p k hk).2.1; omega, fun k hk => (p k hk).2.2.2.1, fun k hk => (p k hk).2.2.2.2.1, fun k hk => (p k hk).2.2.2.2.2⟩
theorem con_ct (C : Nat → Nat → Int) {n m : Nat} (e : (conL C n).length = m * 5) : CtOk n m (ofL (conL C n)) := (conOut_ok C n).ct e
structure Rg (w : World) (rb g m c cb : Nat) (C : Nat → Int) (j : Nat) : Prop where
 c0 : w.cell? ⟨rb, 0, none⟩ = some (.slice (some ⟨g, 0, none⟩) m c)
 c1 : w.cell? ⟨rb, 1, none⟩ = some (.int .i64 (j : Int))
 f1 : w.frozen? ⟨rb, 1, none⟩ = false
 cl : ∀ q, q < m → w.cell? ⟨g, q * 7, none⟩ = some (.int .i64 (C (q * 5 + 2))) ∧ w.cell? ⟨g, q * 7 + 1, none⟩ = some (.int .i64 (C (q * 5 + 3))) ∧ w.cell? ⟨g, q * 7 + 2, none⟩ = some (.int .i64 (C (q * 5 + 4))) ∧ w.cell? ⟨g, q * 7 + 3, none⟩ = some (.int .i64 (C (q * 5))) ∧ w.cell? ⟨g, q * 7 + 4, none⟩ = some (.pointer (some ⟨cb, 0, none⟩)) ∧ w.cell? ⟨g, q * 7 + 5, none⟩ = some (.int .i64 (C (q * 5 + 1))) ∧ w.cell? ⟨g, q * 7 + 6, none⟩ = some (.pointer (some ⟨cb, 0, none⟩))
 gl : g < w.heap.size
 rl : rb < w.heap.size
 ne : rb ≠ g
theorem Rg.fr {X : Nat → Prop} {w w' : World} {rb g m c cb : Nat} {C : Nat → Int} {j : Nat} (h : Rg w rb g m c cb C j) (hF : Fr X w w') (h1 : ¬ X rb) (h2 : ¬ X g) : Rg w' rb g m c cb C j :=
 have k := fun o => hF.cell (p := ⟨g, o, none⟩) h.gl h2
 ⟨(hF.cell (p := ⟨rb, 0, none⟩) h.rl h1).trans h.c0, (hF.cell (p := ⟨rb, 1, none⟩) h.rl h1).trans h.c1, (hF.frozen (p := ⟨rb, 1, none⟩) h.rl h1).trans h.f1, fun q hq => by
  obtain ⟨r0, r1, r2, r3, r4, r5, r6⟩ := h.cl q hq
  exact ⟨(k _).trans r0, (k _).trans r1, (k _).trans r2, (k _).trans r3, (k _).trans r4, (k _).trans r5, (k _).trans r6⟩, Nat.lt_of_lt_of_le h.gl hF.size, Nat.lt_of_lt_of_le h.rl hF.size, h.ne⟩
theorem Fr.put {b : Nat} {w w' : World} (h : Fr (fun x => x = b) w w') (o : Nat) (v : Value) : Fr (fun x => x = b) w (w'.setCell ⟨b, o, none⟩ v) := h.trans (Fr.setCell (X := fun x => x = b) rfl v)
theorem Rg.below {w w' : World} {rb g m c cb : Nat} {C : Nat → Int} {j : Nat} (h : Rg w rb g m c cb C j) (hb : Below w.heap.size w w') : Rg w' rb g m c cb C j := h.fr (Fr.of_below (X := fun _ => False) hb) id id
theorem Rg.set {w : World} {rb g m c cb : Nat} {C : Nat → Int} {j : Nat} (h : Rg w rb g m c cb C j) (i : Nat) : Rg (w.setCell ⟨rb, 1, none⟩ (.int .i64 (i : Int))) rb g m c cb C i := by
 have hne := h.ne
 have k : ∀ o, (w.setCell ⟨rb, 1, none⟩ (.int .i64 (i : Int))).cell? ⟨g, o, none⟩ = w.cell? ⟨g, o, none⟩ := fun o => by go_simp
 have c1 := h.c1
 have c0 := h.c0
 have f1 := h.f1
 refine ⟨by go_simp, by go_simp, by go_simp, fun q hq => ?_, by simpa using h.gl, by simpa using h.rl, h.ne⟩
 obtain ⟨r0, r1, r2, r3, r4, r5, r6⟩ := h.cl q hq
 exact ⟨(k _).trans r0, (k _).trans r1, (k _).trans r2, (k _).trans r3, (k _).trans r4, (k _).trans r5, (k _).trans r6⟩
theorem take_q {w : World} {rb g m c cb j : Nat} {C : Nat → Int} (h : Rg w rb g m c cb C j) (hj : j < m) (hm : m ≤ 1048576) (X Y D A B : Int) (eX : C (j * 5 + 2) = X) (eY : C (j * 5 + 3) = Y) (eD : C (j * 5 + 4) = D) (eA : C (j * 5) = A) (eB : C (j * 5 + 1) = B) :
 Calls Tryz.prog 62 #[.pointer (some ⟨rb, 0, none⟩)] w fun e w' => e = .returned (.agg #[.int .i64 X, .int .i64 Y, .int .i64 D, .int .i64 A, .pointer (some ⟨cb, 0, none⟩), .int .i64 B, .pointer (some ⟨cb, 0, none⟩)]) ∧ Rg w' rb g m c cb C ((j + 1) % m) ∧ Fr (fun b => b = rb) w w' := by
 have hset := cset_map
 obtain ⟨r0, r1, r2, r3, r4, r5, r6⟩ := h.cl j hj
 rw [eX] at r0
 rw [eY] at r1
 rw [eD] at r2
 rw [eA] at r3
 rw [eB] at r5
 clear eX eY eD eA eB
 have c0 := h.c0
 have c1 := h.c1
 have f1 := h.f1
 have gl := h.gl
 have rl := h.rl
 have ne := h.ne
 have hjm : (j : Int) < (m : Int) := by omega
 have hm0 : ¬ ((m : Int) = 0) := by omega
 have hm1 : ¬ (m = 0) := by omega
 obtain ⟨i, ei⟩ : ∃ i : Nat, (j + 1) % m = i := ⟨_, rfl⟩
 have hi : i < m := by rw [← ei]; exact Nat.mod_lt _ (by omega)
 have er : ((j : Int) + 1).tmod (m : Int) = (i : Int) := by rw [← ei, Int.natCast_emod]; exact (Int.tmod_eq_emod_of_nonneg (by omega))
 have w1_ : IntKind.i64.wrap ((j : Int) + 1) = (j : Int) + 1 := i64w (by omega)
 have w2_ : IntKind.i64.wrap (i : Int) = (i : Int) := i64w (by omega)
 rw [ei]
 clear ei
 go_enter Tryz.func62, Tryz.ntmps62
 go_upto_region 1 with fail
 go_cut [3] (fun s wc => ∃ b, s = .pointer (some ⟨b, 0, none⟩) ∧ wc.cell? ⟨b, 0, none⟩ = some (.int .i64 X) ∧ wc.cell? ⟨b, 1, none⟩ = some (.int .i64 Y) ∧ wc.cell? ⟨b, 2, none⟩ = some (.int .i64 D) ∧ wc.cell? ⟨b, 3, none⟩ = some (.int .i64 A) ∧ wc.cell? ⟨b, 4, none⟩ = some (.pointer (some ⟨cb, 0, none⟩)) ∧ wc.cell? ⟨b, 5, none⟩ = some (.int .i64 B) ∧ wc.cell? ⟨b, 6, none⟩ = some (.pointer (some ⟨cb, 0, none⟩)) ∧ w.heap.size < b ∧ b < wc.heap.size ∧ wc.frozen? ⟨w.heap.size, 0, none⟩ = false ∧ wc.frozen? ⟨w.heap.size, 1, none⟩ = false ∧ wc.frozen? ⟨w.heap.size, 2, none⟩ = false ∧ wc.frozen? ⟨w.heap.size, 3, none⟩ = false ∧ wc.frozen? ⟨w.heap.size, 4, none⟩ = false ∧ wc.frozen? ⟨w.heap.size, 5, none⟩ = false ∧ wc.frozen? ⟨w.heap.size, 6, none⟩ = false ∧ wc.cell? ⟨w.heap.size, 0, none⟩ = some (.int .i64 0) ∧ wc.cell? ⟨w.heap.size, 1, none⟩ = some (.int .i64 0) ∧ wc.cell? ⟨w.heap.size, 2, none⟩ = some (.int .i64 0) ∧ wc.cell? ⟨w.heap.size, 3, none⟩ = some (.int .i64 0) ∧ wc.cell? ⟨w.heap.size, 4, none⟩ = some (.pointer none) ∧ wc.cell? ⟨w.heap.size, 5, none⟩ = some (.int .i64 0) ∧ wc.cell? ⟨w.heap.size, 6, none⟩ = some (.pointer none) ∧ Below w.heap.size w wc)
 case first =>
  refine wp_region_held_drew (S := fun w' => w'.cell? ⟨rb, 0, none⟩ = some (.slice (some ⟨g, 0, none⟩) m c) ∧ w'.cell? ⟨rb, 1, none⟩ = some (.int .i64 (j : Int)) ∧ w'.cell? ⟨g, j * 7, none⟩ = some (.int .i64 X) ∧ w'.cell? ⟨g, j * 7 + 1, none⟩ = some (.int .i64 Y) ∧ w'.cell? ⟨g, j * 7 + 2, none⟩ = some (.int .i64 D) ∧ w'.cell? ⟨g, j * 7 + 3, none⟩ = some (.int .i64 A) ∧ w'.cell? ⟨g, j * 7 + 4, none⟩ = some (.pointer (some ⟨cb, 0, none⟩)) ∧ w'.cell? ⟨g, j * 7 + 5, none⟩ = some (.int .i64 B) ∧ w'.cell? ⟨g, j * 7 + 6, none⟩ = some (.pointer (some ⟨cb, 0, none⟩))) (by kernel_rfl) ?_ (fun hHeld => ?_)
  · (try dsimp only)
    (first | (go_simp; done) | (go_keep; done))
  refine tq 0 hHeld ?_
  refine tq 1 hHeld ?_
  refine tq 2 hHeld ?_
  refine tq 3 hHeld ?_
  refine tq 4 hHeld ?_
  refine tq 5 hHeld ?_
  refine tq 6 hHeld ?_
  refine tq 7 hHeld ?_
  refine tq 8 hHeld ?_
  refine tq 9 hHeld ?_
  (refine tc 10 fun K hK => ?_; go_simp; refine tr hK (fun hHeld => ?_); clear hK K)
  (refine tc 11 fun K hK => ?_; go_simp; refine tr hK (fun hHeld => ?_); clear hK K)
  refine wpAnyH_done (by kernel_rfl) ?_ _
  go_wp2_with fail
  go_meet
  exact ⟨_, rfl, (by go_simp), (by go_simp), (by go_simp), (by go_simp), (by go_simp), (by go_simp), (by go_simp), (by first | omega | (simp; done) | (simp; omega)), (by first | omega | (simp; done) | (simp; omega)), (by first | (go_simp; done) | (simp; done)), (by first | (go_simp; done) | (simp; done)), (by first | (go_simp; done) | (simp; done)), (by first | (go_simp; done) | (simp; done)), (by first | (go_simp; done) | (simp; done)), (by first | (go_simp; done) | (simp; done)), (by first | (go_simp; done) | (simp; done)), (by go_simp), (by go_simp), (by go_simp), (by go_simp), (by go_simp), (by go_simp), (by go_simp), bel_a⟩
 case rest =>
 obtain ⟨b, rfl, k0, k1, k2, k3, k4, k5, k6, hb1, hb2, z0, z1, z2, z3, z4, z5, z6, y0, y1, y2, y3, y4, y5, y6, hB⟩ := hcut
 have hR := h.below hB
 have q0 := hR.c0
 have q1 := hR.c1
 have q2 := hR.f1
 have lw : w.heap.size < wc.heap.size := by omega
 clear c0 c1 f1 r0 r1 r2 r3 r4 r5 r6
 have n1 : (rb = b) = False := eq_false (by omega)
 have n2 : (rb = w.heap.size) = False := eq_false (by omega)
 have n3 : (w.heap.size = b) = False := eq_false (by omega)
 have n4 : (b = rb) = False := eq_false (by omega)
 have n5 : (w.heap.size = rb) = False := eq_false (by omega)
 have n6 : (b = w.heap.size) = False := eq_false (by omega)
 go_upto_region 2 with fail
 refine wp_region_held_drew (S := fun w' => w'.cell? ⟨rb, 0, none⟩ = some (.slice (some ⟨g, 0, none⟩) m c)) (by kernel_rfl) ?_ (fun hHeld => ?_)
 · (try dsimp only)
   (first | (go_simp; done) | (go_keep; done))
 refine tq 0 hHeld ?_
 refine tq 1 hHeld ?_
 refine tq 2 hHeld ?_
 refine tq 3 hHeld ?_
 refine tq 6 hHeld ?_
 refine tq 7 hHeld ?_
 refine tq 8 hHeld ?_
 refine tq 9 hHeld ?_
 refine tq 10 hHeld ?_
 (refine tc 4 fun K hK => ?_; go_simp; refine tr hK (fun hHeld => ?_); clear hK K)
 refine tq 5 hHeld ?_
 refine tq 11 hHeld ?_
 refine tq 12 hHeld ?_
 refine tq 13 hHeld ?_
 (refine tc 14 fun K hK => ?_; go_simp; refine tr hK (fun hHeld => ?_); clear hK K)
 refine wpAnyH_done (by kernel_rfl) ?_ _
 skip
 have hS := hR.set i
 have hF : Fr (fun b => b = rb) w (wc.setCell ⟨rb, 1, none⟩ (.int .i64 (i : Int))) := (Fr.of_below (X := fun b => b = rb) hB).trans (Fr.setCell (X := fun b => b = rb) (p := ⟨rb, 1, none⟩) rfl _)
 go_wp2_with fail
 have Y0 : (wc.setCell ⟨rb, 1, none⟩ (.int .i64 (i : Int))).cell? ⟨w.heap.size, 0, none⟩ = some (.int .i64 0) := by go_simp
 have Y1 : (wc.setCell ⟨rb, 1, none⟩ (.int .i64 (i : Int))).cell? ⟨w.heap.size, 1, none⟩ = some (.int .i64 0) := by go_simp
 have Y2 : (wc.setCell ⟨rb, 1, none⟩ (.int .i64 (i : Int))).cell? ⟨w.heap.size, 2, none⟩ = some (.int .i64 0) := by go_simp
 have Y3 : (wc.setCell ⟨rb, 1, none⟩ (.int .i64 (i : Int))).cell? ⟨w.heap.size, 3, none⟩ = some (.int .i64 0) := by go_simp
 have Y4 : (wc.setCell ⟨rb, 1, none⟩ (.int .i64 (i : Int))).cell? ⟨w.heap.size, 4, none⟩ = some (.pointer none) := by go_simp
 have Y5 : (wc.setCell ⟨rb, 1, none⟩ (.int .i64 (i : Int))).cell? ⟨w.heap.size, 5, none⟩ = some (.int .i64 0) := by go_simp
 have Y6 : (wc.setCell ⟨rb, 1, none⟩ (.int .i64 (i : Int))).cell? ⟨w.heap.size, 6, none⟩ = some (.pointer none) := by go_simp
 generalize wc.setCell ⟨rb, 1, none⟩ (.int .i64 (i : Int)) = wy at hS hF Y0 Y1 Y2 Y3 Y4 Y5 Y6 ⊢
 clear hR hB q0 q1 q2 h er w1_ w2_ k0 k1 k2 k3 k4 k5 k6 y0 y1 y2 y3 y4 y5 y6 z0 z1 z2 z3 z4 z5 z6
 have FF : ∀ W', Fr (fun b => b = w.heap.size) wy W' → Rg W' rb g m c cb C i ∧ Fr (fun b => b = rb) w W' := fun W' hQ => ⟨hS.fr hQ (by show ¬ rb = w.heap.size; omega) (by show ¬ g = w.heap.size; omega), hF.trans' hQ (fun i hi e => by omega)⟩
 refine bodyPost_ret (v := .agg #[.int .i64 X, .int .i64 Y, .int .i64 D, .int .i64 A, .pointer (some ⟨cb, 0, none⟩), .int .i64 B, .pointer (some ⟨cb, 0, none⟩)]) ?_ rfl ⟨rfl, FF _ ?_⟩
 · clear FF hS hF
   simp [results, Tryz.results62, go_sem, *]
 · with_reducible exact Fr.drew (((((((Fr.refl _ wy).put 0 _).put 1 _).put 2 _).put 3 _).put 4 _).put 5 _ |>.put 6 _)
end Go.Proofs.YtfiaokkolcodgaaGreat
