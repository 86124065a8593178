/- Contacts that the specification finds are ok: places of two different bodies, a way within One, a depth within limits. Bodies that touch, joined. -/
import Derived.Test.YtlbpmmjckoaleaaGreatB6
import Derived.Test.YtlbpmmjckoaleaaGreatB9
import Derived.Test.YtlbpmmjckoaleaaGreatB4
import Derived.Test.YtlbpmmjckoaleaaGreatB5
import Derived.Test.YtlbpmmjckoaleaaGreatB8
import Derived.Test.YtlbpmmjckoaleaaGreatB1
import Derived.Deep.RegionHeld3
import Derived.Deep.DeepCutAuto
namespace Go.Proofs.YtlbpmmjckoaleaaGreat
open Go.RowKit
set_option linter.unusedVariables false
set_option linter.unusedSimpArgs false
theorem sqn (a : Int) : 0 ≤ a * a := by
  rcases Int.le_total 0 a with h | h
  · exact Int.mul_nonneg h h
  · have := Int.mul_nonneg (show 0 ≤ -a by omega) (show 0 ≤ -a by omega); rwa [Int.neg_mul_neg] at this
theorem abs_le_of_sq {a b : Int} (hb : 0 ≤ b) (h : a * a < (b + 1) * (b + 1)) : -b ≤ a ∧ a ≤ b := by
  have k : ∀ x : Int, x * x < (b + 1) * (b + 1) → x ≤ b := fun x hx => by
    by_cases l : b < x
    · have := Int.mul_le_mul (show b + 1 ≤ x by omega) (show b + 1 ≤ x by omega) (by omega) (by omega)
      omega
    · omega
  have k1 := k a h
  have k2 := k (-a) (by rw [Int.neg_mul_neg]; exact h)
  omega
theorem vl_ge {x y : Int} (hx : -10000000 ≤ x ∧ x ≤ 10000000) (hy : -10000000 ≤ y ∧ y ≤ 10000000) : 0 ≤ vl x y ∧ (-vl x y ≤ x ∧ x ≤ vl x y) ∧ (-vl x y ≤ y ∧ y ≤ vl x y) := by
  have h0 : 0 ≤ x * x + y * y := by have := sqn x; have := sqn y; omega
  have b1 := mul_bd (a := x) (b := x) (A := 10000000) (B := 10000000) (by omega) (by omega)
  have b2 := mul_bd (a := y) (b := y) (A := 10000000) (B := 10000000) (by omega) (by omega)
  obtain ⟨a, b, c⟩ := rootZ_is h0
  have hle := rootZ_le (n := x * x + y * y) (B := 99999999) (by omega) (by omega)
  have e : vl x y = rootZ (x * x + y * y) := by unfold vl clampZ; repeat' split <;> omega
  rw [e]
  have := sqn x
  have := sqn y
  exact ⟨a, abs_le_of_sq a (by omega), abs_le_of_sq a (by omega)⟩
theorem unit_bd {x y : Int} (hx : -10000000 ≤ x ∧ x ≤ 10000000) (hy : -10000000 ≤ y ∧ y ≤ 10000000) : (-256 ≤ ux x y ∧ ux x y ≤ 256) ∧ (-256 ≤ uy x y ∧ uy x y ≤ 256) := by
  obtain ⟨h0, hX, hY⟩ := vl_ge hx hy
  unfold ux uy
  by_cases z : vl x y = 0
  · rw [if_pos z, if_pos z]; omega
  · rw [if_neg z, if_neg z]
    exact ⟨tdiv_le (by omega) (by omega) (by omega), tdiv_le (by omega) (by omega) (by omega)⟩
/-- a hit that is ok -/
def HitOk (X Y D : Int) : Prop := (-256 ≤ X ∧ X ≤ 256) ∧ (-256 ≤ Y ∧ Y ≤ 256) ∧ (0 ≤ D ∧ D ≤ 102400)
theorem rd_ok {dx dy g X Y D : Int} (hx : -10000000 ≤ dx ∧ dx ≤ 10000000) (hy : -10000000 ≤ dy ∧ dy ≤ 10000000) (hg : 0 ≤ g ∧ g ≤ 51200) (e : rdT dx dy g = ((X, Y, D), true)) : HitOk X Y D ∧ D ≤ g := by
  unfold rdT at e
  split at e
  · rename_i h
    simp only [Prod.mk.injEq, and_true] at e
    obtain ⟨rfl, rfl, rfl⟩ := e
    obtain ⟨u1, u2⟩ := unit_bd hx hy
    obtain ⟨v0, _, _⟩ := vl_ge hx hy
    have b1 := mul_bd (a := dx) (b := dx) (A := 10000000) (B := 10000000) (by omega) (by omega)
    have b2 := mul_bd (a := dy) (b := dy) (A := 10000000) (B := 10000000) (by omega) (by omega)
    have h0 : 0 ≤ dx * dx + dy * dy := by have := sqn dx; have := sqn dy; omega
    obtain ⟨a, b, c⟩ := rootZ_is h0
    have hle := rootZ_le (n := dx * dx + dy * dy) (B := 99999999) (by omega) (by omega)
    have e : vl dx dy = rootZ (dx * dx + dy * dy) := by unfold vl clampZ; repeat' split <;> omega
    have hv : vl dx dy ≤ g := by
      rw [e]
      have hs : rootZ (dx * dx + dy * dy) * rootZ (dx * dx + dy * dy) < (g + 1) * (g + 1) := by
        have : (g + 1) * (g + 1) = g * g + (2 * g + 1) := by simp only [Int.add_mul, Int.mul_add, Int.one_mul, Int.mul_one]; omega
        omega
      exact (abs_le_of_sq hg.1 hs).2
    exact ⟨⟨u1, u2, by omega, by omega⟩, by omega⟩
  · simp at e
theorem bs_ok {s0 s1 s2 s3 : Int} (h0 : 0 ≤ s0) (h1 : 0 ≤ s1) (h2 : 0 ≤ s2) (h3 : 0 ≤ s3) (hs : s0 + s1 ≤ 102400) :
    (-256 ≤ (bsT s0 s1 s2 s3).1 ∧ (bsT s0 s1 s2 s3).1 ≤ 256) ∧ (-256 ≤ (bsT s0 s1 s2 s3).2.1 ∧ (bsT s0 s1 s2 s3).2.1 ≤ 256) ∧ (0 ≤ (bsT s0 s1 s2 s3).2.2 ∧ 2 * (bsT s0 s1 s2 s3).2.2 ≤ s0 + s1) := by
  unfold bsT
  by_cases a : s1 < s0 <;> simp only [a, if_true, if_false]
  · by_cases b : s2 < s1 <;> simp only [b, if_true, if_false]
    · by_cases c : s3 < s2 <;> simp only [c, if_true, if_false] <;> omega
    · by_cases c : s3 < s1 <;> simp only [c, if_true, if_false] <;> omega
  · by_cases b : s2 < s0 <;> simp only [b, if_true, if_false]
    · by_cases c : s3 < s2 <;> simp only [c, if_true, if_false] <;> omega
    · by_cases c : s3 < s0 <;> simp only [c, if_true, if_false] <;> omega
theorem mx_ok {a b c d x y g X Y D : Int} (ha : -2600000 ≤ a ∧ a ≤ c ∧ c ≤ 2600000 ∧ c - a ≤ 51200) (hb : -2600000 ≤ b ∧ b ≤ d ∧ d ≤ 2600000) (hx : -2560000 ≤ x ∧ x ≤ 2560000) (hy : -2560000 ≤ y ∧ y ≤ 2560000) (hg : 0 ≤ g ∧ g ≤ 25600) (e : mxT a b c d x y g = ((X, Y, D), true)) : HitOk X Y D := by
  unfold mxT at e
  split at e
  · rename_i h
    unfold ptB at h
    simp only [decide_eq_true_eq] at h
    have f := bs_ok (s0 := c - x) (s1 := x - a) (s2 := d - y) (s3 := y - b) (by omega) (by omega) (by omega) (by omega) (by omega)
    simp only [Prod.mk.injEq, and_true] at e
    obtain ⟨rfl, rfl, rfl⟩ := e
    exact ⟨f.1, f.2.1, by omega, by omega⟩
  · have n1 : mn (mx x a) c ≤ c ∧ a ≤ mn (mx x a) c := by unfold mn mx; repeat' split <;> omega
    have n2 : mn (mx y b) d ≤ d ∧ b ≤ mn (mx y b) d := by unfold mn mx; repeat' split <;> omega
    exact (rd_ok (by omega) (by omega) (by omega) e).1
theorem tn_ok {m : (Int × Int × Int) × Bool} {X Y D : Int} (hm : ∀ x y d, m = ((x, y, d), true) → HitOk x y d) (e : tnT m = ((X, Y, D), true)) : HitOk X Y D := by
  obtain ⟨⟨x, y, d⟩, k⟩ := m
  unfold tnT at e
  dsimp only at e
  split at e
  · rename_i hk
    subst hk
    simp only [Prod.mk.injEq, and_true] at e
    obtain ⟨rfl, rfl, rfl⟩ := e
    obtain ⟨h1, h2, h3⟩ := hm x y d rfl
    exact ⟨by omega, by omega, h3⟩
  · simp at e
theorem bx_ok {a b c d r s t u X Y D : Int} (h1 : c - a ≤ 51200) (h2 : t - r ≤ 51200) (e : bxT a b c d r s t u = ((X, Y, D), true)) : HitOk X Y D := by
  unfold bxT at e
  split at e
  · rename_i h
    rw [Bool.and_eq_true] at h
    obtain ⟨l1, l2⟩ := h
    unfold leB at l1 l2
    simp only [decide_eq_true_eq] at l1 l2
    have f := bs_ok (s0 := c - r) (s1 := t - a) (s2 := d - s) (s3 := u - b) (by omega) (by omega) (by omega) (by omega) (by omega)
    simp only [Prod.mk.injEq, and_true] at e
    rw [e] at f
    exact ⟨f.1, f.2.1, by have := f.2.2; dsimp only at this; omega, by have := f.2.2; dsimp only at this; omega⟩
  · simp at e
theorem toT_ok {k g h x y m c d u v X Y D : Int} (e : toT k g h x y m c d u v = ((X, Y, D), true)) : HitOk X Y D := by
  unfold toT at e
  split at e
  · rename_i hz
    simp only [Bool.and_eq_true] at hz
    obtain ⟨s1, s2, p1, p2⟩ := hz
    obtain ⟨⟨x0, x1⟩, y0, y1⟩ := inB_of p1
    obtain ⟨⟨u0, u1⟩, v0, v1⟩ := inB_of p2
    rcases shB_kinds s1 with ⟨rfl, rfl, a0, a1⟩ | ⟨rfl, a0, a1, a2, a3⟩
    · rcases shB_kinds s2 with ⟨rfl, rfl, b0, b1⟩ | ⟨rfl, b0, b1, b2, b3⟩
      · have q1 : tcT 1 g 0 x y 1 c 0 u v = rdT (u - x) (v - y) (g + c) := by unfold tcT; simp
        rw [q1] at e
        exact (rd_ok (by omega) (by omega) (by omega) e).1
      · have q1 : tcT 1 g 0 x y 2 c d u v = tnT (mxT (u - c) (v - d) (u + c) (v + d) x y g) := by unfold tcT; simp
        rw [q1] at e
        exact tn_ok (fun x' y' d' e0 => mx_ok (by omega) (by omega) (by omega) (by omega) (by omega) e0) e
    · rcases shB_kinds s2 with ⟨rfl, rfl, b0, b1⟩ | ⟨rfl, b0, b1, b2, b3⟩
      · have q1 : tcT 2 g h x y 1 c 0 u v = mxT (x - g) (y - h) (x + g) (y + h) u v c := by unfold tcT; simp
        rw [q1] at e
        exact mx_ok (by omega) (by omega) (by omega) (by omega) (by omega) e
      · have q1 : tcT 2 g h x y 2 c d u v = bxT (x - g) (y - h) (x + g) (y + h) (u - c) (v - d) (u + c) (v + d) := by unfold tcT; simp
        rw [q1] at e
        exact bx_ok (by omega) (by omega) e
  · simp at e
/-- a list of fives, each with a property -/
def Fives (P : Int → Int → Int → Int → Int → Prop) (l : List Int) : Prop := ∃ m, l.length = m * 5 ∧ ∀ k, k < m → P (ofL l (k * 5)) (ofL l (k * 5 + 1)) (ofL l (k * 5 + 2)) (ofL l (k * 5 + 3)) (ofL l (k * 5 + 4))
theorem ofL_l {l r : List Int} {q : Nat} (h : q < l.length) : ofL (l ++ r) q = ofL l q := by
  unfold ofL; rw [List.getD_eq_getElem?_getD, List.getD_eq_getElem?_getD, List.getElem?_append_left h]
theorem ofL_r {l r : List Int} {q : Nat} (h : l.length ≤ q) : ofL (l ++ r) q = ofL r (q - l.length) := by
  unfold ofL; rw [List.getD_eq_getElem?_getD, List.getD_eq_getElem?_getD, List.getElem?_append_right h]
theorem Fives.nil (P : Int → Int → Int → Int → Int → Prop) : Fives P [] := ⟨0, rfl, fun k h => by omega⟩
theorem Fives.one {P : Int → Int → Int → Int → Int → Prop} {a b x y d : Int} (h : P a b x y d) : Fives P [a, b, x, y, d] := by
  refine ⟨1, rfl, fun k hk => ?_⟩
  obtain rfl : k = 0 := by omega
  exact h
theorem Fives.app {P : Int → Int → Int → Int → Int → Prop} {l r : List Int} (h1 : Fives P l) (h2 : Fives P r) : Fives P (l ++ r) := by
  obtain ⟨m, e1, p1⟩ := h1
  obtain ⟨m', e2, p2⟩ := h2
  refine ⟨m + m', by rw [List.length_append, e1, e2]; omega, fun k hk => ?_⟩
  by_cases c : k < m
  · rw [ofL_l (by omega), ofL_l (by omega), ofL_l (by omega), ofL_l (by omega), ofL_l (by omega)]
    exact p1 k c
  · rw [ofL_r (by omega), ofL_r (by omega), ofL_r (by omega), ofL_r (by omega), ofL_r (by omega), e1, show k * 5 - m * 5 = (k - m) * 5 by omega, show k * 5 + 1 - m * 5 = (k - m) * 5 + 1 by omega, show k * 5 + 2 - m * 5 = (k - m) * 5 + 2 by omega, show k * 5 + 3 - m * 5 = (k - m) * 5 + 3 by omega, show k * 5 + 4 - m * 5 = (k - m) * 5 + 4 by omega]
    exact p2 (k - m) (by omega)
/-- a contact that is ok, of n bodies -/
def CtP (n : Nat) (a b x y d : Int) : Prop := 0 ≤ a ∧ a < b ∧ b < (n : Int) ∧ HitOk x y d
theorem conOne_ok (C : Nat → Nat → Int) {n i k : Nat} (hk : k < n) : Fives (CtP n) (conOne C i k) := by
  unfold conOne
  split
  · rename_i h
    unfold conB at h
    simp only [Bool.and_eq_true, decide_eq_true_eq] at h
    have e : toT (C 1 i) (C 2 i) (C 3 i) (C 4 i) (C 5 i) (C 1 k) (C 2 k) (C 3 k) (C 4 k) (C 5 k) = (((tcH C i k).1.1, (tcH C i k).1.2.1, (tcH C i k).1.2.2), true) := by
      show tcH C i k = _
      rw [← h.2.2]
    exact Fives.one ⟨by omega, by omega, by omega, toT_ok e⟩
  · exact Fives.nil _
theorem conIn_ok (C : Nat → Nat → Int) {n i : Nat} : ∀ k, k ≤ n → Fives (CtP n) (conIn C i k)
  | 0, _ => Fives.nil _
  | k + 1, h => (conIn_ok C k (by omega)).app (conOne_ok C (by omega))
theorem conOut_ok (C : Nat → Nat → Int) {n : Nat} : ∀ i, Fives (CtP n) (conOut C n i)
  | 0 => Fives.nil _
  | i + 1 => (conOut_ok C i).app (conIn_ok C n (Nat.le_refl _))
theorem Fives.ct {n m : Nat} {l : List Int} (h : Fives (CtP n) l) (e : l.length = m * 5) : CtOk n m (ofL l) := by
  obtain ⟨m', e', p⟩ := h
  obtain rfl : m' = m := by omega
  exact ⟨fun k hk => ⟨(p k hk).1, by have := (p k hk).2; omega⟩, fun k hk => ⟨by have := p k hk; unfold CtP at this; omega, (p k hk).2.2.1⟩, fun k hk => by have := (p k hk).2.1; omega, fun k hk => (p k hk).2.2.2.1, fun k hk => (p k hk).2.2.2.2.1, fun k hk => (p k hk).2.2.2.2.2⟩
theorem con_ct (C : Nat → Nat → Int) {n m : Nat} (e : (conL C n).length = m * 5) : CtOk n m (ofL (conL C n)) := (conOut_ok C n).ct e
end Go.Proofs.YtlbpmmjckoaleaaGreat
namespace Go.Proofs.YtlbpmmjckoaleaaGreat
open Go.RowKit
set_option linter.unusedVariables false
set_option linter.unusedSimpArgs false
/-- so many places, of which the first k are under themselves -/
structure Uk (w : World) (ub g n : Nat) (k : Nat) : Prop where
  hd : w.cell? ⟨ub, 0, none⟩ = some (.slice (some ⟨g, 0, none⟩) n n)
  row : ∀ i, i < n → w.cell? ⟨g, i, none⟩ = some (.int .i64 ((if i < k then i else 0 : Nat) : Int))
  fz : ∀ i, w.frozen? ⟨g, i, none⟩ = false
  ne : ub ≠ g
  l1 : ub < w.heap.size
  l2 : g < w.heap.size
theorem Uk.set {w : World} {ub g n k : Nat} (h : Uk w ub g n k) (hk : k < n) : Uk (w.setCell ⟨g, k, none⟩ (.int .i64 (k : Int))) ub g n (k + 1) := by
  refine ⟨?_, fun i hi => ?_, fun i => by rw [World.frozen?_setCell]; exact h.fz i, h.ne, by simpa using h.l1, by simpa using h.l2⟩
  · rw [cset_far (by simp; have := h.ne; omega)]; exact h.hd
  · by_cases e : i = k
    · subst e; rw [cset_map, h.row i hi]; simp
    · rw [cset_other (by intro q; cases q; exact e rfl), h.row i hi]
      by_cases l : i < k
      · rw [if_pos l, if_pos (by omega)]
      · rw [if_neg l, if_neg (by omega)]
theorem Uk.done {w : World} {ub g n : Nat} (h : Uk w ub g n n) : Uf w ub g n n (fun i => i) :=
  ⟨h.hd, fun i hi => by rw [h.row i hi, if_pos hi], h.fz, fun _ => Nat.le_refl _, h.ne, h.l1, h.l2⟩
set_option maxRecDepth 20000 in
set_option maxHeartbeats 8000000 in
theorem unionsOf_q (n : Nat) (w : World) (hn : n ≤ 1000) : Calls Tryz.prog 75 #[.int .i64 (n : Int)] w fun e w' => ∃ ub g : Nat, e = .returned (.pointer (some ⟨ub, 0, none⟩)) ∧ w.heap.size ≤ g ∧ w.heap.size ≤ ub ∧ Uf w' ub g n n (fun i => i) ∧ Below w.heap.size w w' := by
  have hset := cset_map
  have hmk : ∀ w, (Instr.makeSlice 116 (.int .i64 (n : Int)) (.int .i64 (n : Int))).run Tryz.prog w = .ok (.slice (some ⟨w.heap.size, 0, none⟩) n n) (w.alloc (.cells (madeCells #[.int .i64 0] n) 78)) := fun w => by have q := make_rows (P := Tryz.prog) 116 78 (.int .i64 0) 1 8 Tryz.underlying116 (by kernel_rfl) .i64 .i64 n (by omega) (by omega) w; rw [Nat.mul_one] at q; exact q
  have hE : Below w.heap.size w ((w.alloc (.cells (madeCells #[.int .i64 0] n) 78)).alloc (Obj.cells #[.slice (some ⟨w.heap.size, 0, none⟩) n n] 118)) := ((Below.refl _ _).alloc (Nat.le_refl _) _).alloc (by simp) _
  have hU0 : Uk ((w.alloc (.cells (madeCells #[.int .i64 0] n) 78)).alloc (Obj.cells #[.slice (some ⟨w.heap.size, 0, none⟩) n n] 118)) (w.heap.size + 1) w.heap.size n 0 := by
    refine ⟨by go_simp, fun i hi => ?_, fun i => by go_simp, by omega, by simp, by simp; omega⟩
    rw [if_neg (Nat.not_lt_zero _), calloc_old (by simp)]
    have e : (w.alloc (.cells (madeCells #[.int .i64 0] n) 78)).cell? ⟨w.heap.size, i, none⟩ = (madeCells #[.int .i64 0] n)[i]? := by go_simp
    rw [e]
    unfold madeCells
    simp [hi, Value.cells, Nat.mod_one]
  go_enter Tryz.func75, Tryz.ntmps75
  go_upto_region 3 with fail
  generalize ((w.alloc (.cells (madeCells #[.int .i64 0] n) 78)).alloc (Obj.cells #[.slice (some ⟨w.heap.size, 0, none⟩) n n] 118)) = w2 at hE hU0 ⊢
  go_loopw [14] (fun s wr => ∃ k : Nat, k ≤ n ∧ s = .int .i64 (k : Int) ∧ Uk wr (w.heap.size + 1) w.heap.size n k ∧ Below w.heap.size w wr) (fun s _ => n - (intOf s).toNat)
  case atStart => exact ⟨0, Nat.zero_le _, rfl, hU0, hE⟩
  case round =>
    clear hU0 hE
    obtain ⟨k, hk, rfl, hU, hE⟩ := hrel
    have u0 := hU.hd
    have uf := hU.fz
    by_cases hlt : k < n
    · have hkn : (k : Int) < (n : Int) := by omega
      have uk := hU.row k hlt
      have hU2 := hU.set hlt
      go_wp2_with fail
      go_roundw
      case rel => exact ⟨k + 1, by omega, by go_num, hU2, hE.setCell (Nat.le_refl _) _⟩
      case measure => simp [intOf]; omega
    · obtain rfl : k = n := by omega
      go_wp2_with fail
      go_ret
      exact ⟨_, _, rfl, Nat.le_refl _, by omega, hU.done, hE⟩
/-- a variable that is a handle -/
def Hb (w : World) (b : Nat) (x : Int) (y : Value) : Prop := w.heap[b]? = some (.cells #[.int .i64 x, y] 80 (0, 0))
theorem Hb.lt {w : World} {b : Nat} {x : Int} {y : Value} (h : Hb w b x y) : b < w.heap.size := by
  rcases Nat.lt_or_ge b w.heap.size with q | q
  · exact q
  · unfold Hb at h; rw [Array.getElem?_eq_none q] at h; cases h
theorem Hb.c0 {w : World} {b : Nat} {x : Int} {y : Value} (h : Hb w b x y) : w.cell? ⟨b, 0, none⟩ = some (.int .i64 x) := by unfold Hb at h; simp [World.cell?, h]
theorem Hb.c1 {w : World} {b : Nat} {x : Int} {y : Value} (h : Hb w b x y) : w.cell? ⟨b, 1, none⟩ = some y := by unfold Hb at h; simp [World.cell?, h]
theorem Hb.f {w : World} {b : Nat} {x : Int} {y : Value} (h : Hb w b x y) : ∀ o, w.frozen? ⟨b, o, none⟩ = false := by unfold Hb at h; intro o; simp [World.frozen?, h]
theorem Hb.on {w w' : World} {b : Nat} {x : Int} {y : Value} (h : Hb w b x y) (k : Below w.heap.size w w') : Hb w' b x y := (k.block b h.lt).trans h
theorem Hb.new (w : World) (x : Int) (y : Value) : Hb (w.alloc (.cells #[.int .i64 x, y] 80)) w.heap.size x y := by show (w.heap.push _)[w.heap.size]? = _; simp
theorem setBlkJ {w : World} {b i : Nat} {cs : Array Value} {t : TypeId} {fr : Nat × Nat} (h : w.heap[b]? = some (.cells cs t fr)) (v : Value) : (w.setCell ⟨b, i, none⟩ v).heap[b]? = some (.cells (cs.setIfInBounds i v) t fr) := by
  show (w.heap.modify b _)[b]? = _
  rw [Array.getElem?_modify, if_pos rfl, h]
  rfl
theorem Hb.put {w : World} {b : Nat} {x : Int} {y : Value} (h : Hb w b x y) (x' : Int) (y' : Value) : Hb ((w.setCell ⟨b, 0, none⟩ (.int .i64 x')).setCell ⟨b, 1, none⟩ y') b x' y' := setBlkJ (i := 1) (setBlkJ (i := 0) h (.int .i64 x')) y'
theorem Hb.far {w : World} {b b' o : Nat} {x : Int} {y : Value} (h : Hb w b x y) (hn : b ≠ b') (v : Value) : Hb (w.setCell ⟨b', o, none⟩ v) b x y := (Below.heap_setCell w ⟨b', o, none⟩ v b hn).trans h
/-- which two a contact joins -/
def edg (U C : Nat → Int) (k : Nat) : Option (Nat × Nat) := if U ((C (k * 5)).toNat * 12 + 8) ≠ 0 ∧ U ((C (k * 5 + 1)).toNat * 12 + 8) ≠ 0 then some ((C (k * 5)).toNat, (C (k * 5 + 1)).toNat) else none
set_option maxRecDepth 20000 in
set_option maxHeartbeats 8000000 in
theorem joined_q (cb n : Nat) (U : Nat → Int) (S : Nat → Value) (M : Nat) (w : World) (hC : Cs w cb n (colOf U) S) (hn : n ≤ 12) (hM : (conL (colOf U) n).length = M * 5) (hMk : M ≤ 1000) :
    Calls Tryz.prog 47 #[.pointer (some ⟨cb, 0, none⟩)] w fun e w' => ∃ (ub g : Nat) (G : Nat → Nat), e = .returned (.pointer (some ⟨ub, 0, none⟩)) ∧ (w.heap.size ≤ g ∧ w.heap.size ≤ ub) ∧ Uf w' ub g n n G ∧ (∀ j, rootF G j = lab (edg U (ofL (conL (colOf U) n))) M j) ∧ Below w.heap.size w w' := by
  have hset := cset_map
  have hCt := con_ct (colOf U) hM
  obtain ⟨C, hCe⟩ : ∃ C, ofL (conL (colOf U) n) = C := ⟨_, rfl⟩
  rw [hCe] at hCt ⊢
  obtain ⟨ad, cc, hS0⟩ := (hC.own 0 (by omega)).is
  have hd0 := hC.hd 0 (by omega)
  rw [hS0] at hd0
  go_enter Tryz.func47, Tryz.ntmps47
  go_upto_region 3 with (first
    | (have _ := hb1; go_at_call 76; refine (contacts_any cb n (colOf U) S _ (hC.below hb1) hn).mono ?_; rintro e w3 ⟨a2, m2, c2, rfl, hl2, hO2⟩)
    | (go_at_call 75; refine (unionsOf_q n _ (by omega)).mono ?_; rintro e w1 ⟨ub, g, rfl, hg1, hg2, hU1, hb1⟩))
  obtain rfl : m2 = M := by omega
  rw [hCe] at hO2
  have hU3 := hU1.on hO2.bel
  have hB3 := hb1.trans (hO2.bel.mono hb1.size)
  have hC3 := (hC.below hb1).below hO2.bel
  have hgz := hU1.l2
  have hz3 := hO2.bel.size
  clear hd0 hM hb1 hU1
  go_loopw [17] (fun s wr => ∃ (k : Nat) (G : Nat → Nat), k ≤ m2 ∧ s = .int .i64 (k : Int) ∧ Uf wr ub g n n G ∧ (∀ j, rootF G j = lab (edg U C) k j) ∧ Fr (fun b => b = g) w3 wr) (fun s _ => m2 - (intOf s).toNat)
  case atStart => exact ⟨0, fun i => i, Nat.zero_le _, rfl, hU3, fun j => root_self (Nat.lt_irrefl j), Fr.refl _ _⟩
  case round =>
    obtain ⟨k, G, hk, rfl, hU, hG0, hF⟩ := hrel
    have hG : Shut (∀ j, rootF G j = lab (edg U C) k j) := hG0
    clear hG0 hU3
    have hBr : Below w.heap.size w wr := hB3.trans (hF.below hB3.size (fun b e => by subst e; exact hg1))
    have hCr : Cs wr cb n (colOf U) S := hC.below hBr
    by_cases hlt : k < m2
    · have hki : (k : Int) < (m2 : Int) := by omega
      have ca := hCt.a k hlt
      have cb2 := hCt.b k hlt
      have hfl : Flat wr a2 (m2 * 5) C := (hO2.own.frame hF (fun b e q => by subst q; have := (hO2.own.lt _ e).1; omega)).flat
      obtain ⟨b1, o1, e1, hbl1, hc1⟩ := hfl (by omega)
      have r0 := hc1 (k * 5) (by omega)
      have r1 := hc1 (k * 5 + 1) (by omega)
      have r2 := hc1 (k * 5 + 2) (by omega)
      have r3 := hc1 (k * 5 + 3) (by omega)
      have r4 := hc1 (k * 5 + 4) (by omega)
      simp only [← Nat.add_assoc] at r0 r1 r2 r3 r4
      clear hc1
      subst e1
      have HL0 : edg U C k = if U ((C (k * 5)).toNat * 12 + 8) ≠ 0 ∧ U ((C (k * 5 + 1)).toNat * 12 + 8) ≠ 0 then some ((C (k * 5)).toNat, (C (k * 5 + 1)).toNat) else none := rfl
      obtain ⟨A, hA⟩ : ∃ A : Nat, C (k * 5) = (A : Int) := ⟨(C (k * 5)).toNat, by omega⟩
      obtain ⟨B, hBB⟩ : ∃ B : Nat, C (k * 5 + 1) = (B : Int) := ⟨(C (k * 5 + 1)).toNat, by omega⟩
      rw [hA, hBB, Int.toNat_natCast, Int.toNat_natCast] at HL0
      have HL : Shut (edg U C k = if U (A * 12 + 8) ≠ 0 ∧ U (B * 12 + 8) ≠ 0 then some (A, B) else none) := HL0
      rw [hA] at ca r0
      rw [hBB] at cb2 r1
      clear hA hBB HL0
      have hAn : A < n := by omega
      have hBn : B < n := by omega
      go_upto_region 5 with fail
      have hE : Below wr.heap.size wr (wr.alloc (Obj.cells #[.int .i64 (A : Int), .int .i64 (B : Int), .int .i64 (C (k * 5 + 2)), .int .i64 (C (k * 5 + 3)), .int .i64 (C (k * 5 + 4))] 69)) := (Below.refl _ _).alloc (Nat.le_refl _) _
      have k0w : (wr.alloc (Obj.cells #[.int .i64 (A : Int), .int .i64 (B : Int), .int .i64 (C (k * 5 + 2)), .int .i64 (C (k * 5 + 3)), .int .i64 (C (k * 5 + 4))] 69)).cell? ⟨wr.heap.size, 0, none⟩ = some (.int .i64 (A : Int)) := by go_simp
      have k1w : (wr.alloc (Obj.cells #[.int .i64 (A : Int), .int .i64 (B : Int), .int .i64 (C (k * 5 + 2)), .int .i64 (C (k * 5 + 3)), .int .i64 (C (k * 5 + 4))] 69)).cell? ⟨wr.heap.size, 1, none⟩ = some (.int .i64 (B : Int)) := by go_simp
      have hkl : wr.heap.size < (wr.alloc (Obj.cells #[.int .i64 (A : Int), .int .i64 (B : Int), .int .i64 (C (k * 5 + 2)), .int .i64 (C (k * 5 + 3)), .int .i64 (C (k * 5 + 4))] 69)).heap.size := by simp
      have hC4 := hCr.below hE
      have hU4 := hU.on hE
      have hF4 : Fr (fun b => b = g) w3 (wr.alloc (Obj.cells #[.int .i64 (A : Int), .int .i64 (B : Int), .int .i64 (C (k * 5 + 2)), .int .i64 (C (k * 5 + 3)), .int .i64 (C (k * 5 + 4))] 69)) := hF.trans (Fr.of_below hE)
      clear r0 r1 r2 r3 r4 hfl hbl1 hU hF hCr hBr hE
      generalize (wr.alloc (Obj.cells #[.int .i64 (A : Int), .int .i64 (B : Int), .int .i64 (C (k * 5 + 2)), .int .i64 (C (k * 5 + 3)), .int .i64 (C (k * 5 + 4))] 69)) = w4 at k0w k1w hkl hC4 hU4 hF4 ⊢
      generalize wr.heap.size = kb at k0w k1w hkl ⊢
      have hb : Below w4.heap.size w4 w4 := Below.refl _ _
      have k0 := k0w
      have k1 := k1w
      go_cut [6, 7] (fun s6 s7 wz => ∃ bm bl : Nat, s6 = .pointer (some ⟨bm, 0, none⟩) ∧ s7 = .pointer (some ⟨bl, 0, none⟩) ∧ w4.heap.size ≤ bm ∧ w4.heap.size ≤ bl ∧ Hb wz bm (A : Int) (.pointer (some ⟨cb, 0, none⟩)) ∧ Hb wz bl (B : Int) (.pointer (some ⟨cb, 0, none⟩)) ∧ Below w4.heap.size w4 wz)
      case first =>
        refine wp_region_held_drew (S := fun w' => w'.cell? ⟨kb, 0, none⟩ = some (.int .i64 (A : Int)) ∧ w'.cell? ⟨kb, 1, none⟩ = some (.int .i64 (B : Int))) (by kernel_rfl) ?_ (fun hHeld => ?_)
        · (try dsimp only)
          (first | (go_simp; done) | (go_keep; done))
        refine tq 0 hHeld ?_
        refine tq 1 hHeld ?_
        refine tq 2 hHeld ?_
        refine tq 4 hHeld ?_
        refine tq 5 hHeld ?_
        refine tq 6 hHeld ?_
        refine wpAnyH_ready (rs := [3, 8, 9]) (by kernel_rfl) (by simp) ?_
        refine AllReadyH.cons rfl (fun K hK => ?_) (AllReadyH.cons rfl (fun K hK => ?_) (AllReadyH.cons rfl (fun K hK => ?_) AllReadyH.nil))
        · (go_simp
           replace hb := hb.drew
           (go_at_call 63; refine (handle_any cb A _).mono ?_; rintro e w3 ⟨rfl, hx⟩)
           clear k0 k1
           replace hb := hb.trans (hx.mono hb.size)
           
           clear hx
           have k0 := (hb.cell (p := ⟨kb, 0, none⟩) hkl).trans k0w
           have k1 := (hb.cell (p := ⟨kb, 1, none⟩) hkl).trans k1w
           
           (try go_wp2_with fail)
           refine tr hK (fun hHeld => ?_)
           clear hK K)
          refine wpAnyH_ready (rs := [7, 8, 9]) (by kernel_rfl) (by simp) ?_
          refine AllReadyH.cons rfl (fun K hK => ?_) (AllReadyH.cons rfl (fun K hK => ?_) (AllReadyH.cons rfl (fun K hK => ?_) AllReadyH.nil))
          · (go_simp
             (go_at_call 63; refine (handle_any cb B _).mono ?_; rintro e w7 ⟨rfl, hx⟩)
             clear k0 k1
             replace hb := hb.trans (hx.mono hb.size)
             
             clear hx
             have k0 := (hb.cell (p := ⟨kb, 0, none⟩) hkl).trans k0w
             have k1 := (hb.cell (p := ⟨kb, 1, none⟩) hkl).trans k1w
             
             (try go_wp2_with fail)
             refine tr hK (fun hHeld => ?_)
             clear hK K)
            refine wpAnyH_ready (rs := [8, 9]) (by kernel_rfl) (by simp) ?_
            refine AllReadyH.cons rfl (fun K hK => ?_) (AllReadyH.cons rfl (fun K hK => ?_) AllReadyH.nil)
            · (go_simp
               have hx : Below w7.heap.size w7 (w7.alloc (Obj.cells #[.int .i64 0, .pointer none] 80)) := ((Below.refl _ _).alloc (Nat.le_refl _) _)
               have hm : Hb (w7.alloc (Obj.cells #[.int .i64 0, .pointer none] 80)) w7.heap.size 0 (.pointer none) := (Hb.new w7 0 (.pointer none))
               clear k0 k1
               have qm : w4.heap.size ≤ w7.heap.size := hb.size
               
               replace hb := hb.trans (hx.mono hb.size)
               
               clear hx
               generalize w7.alloc (Obj.cells #[.int .i64 0, .pointer none] 80) = w8 at hb hm  ⊢
               generalize w7.heap.size = bm at hm qm  ⊢
               have k0 := (hb.cell (p := ⟨kb, 0, none⟩) hkl).trans k0w
               have k1 := (hb.cell (p := ⟨kb, 1, none⟩) hkl).trans k1w
               have m0 := hm.c0
               have m1 := hm.c1
               have mf := hm.f
               refine tr hK (fun hHeld => ?_)
               clear hK K)
              refine tc 9 fun K hK => ?_
              (go_simp
               have hx : Below w8.heap.size w8 (w8.alloc (Obj.cells #[.int .i64 0, .pointer none] 80)) := ((Below.refl _ _).alloc (Nat.le_refl _) _)
               have hl : Hb (w8.alloc (Obj.cells #[.int .i64 0, .pointer none] 80)) w8.heap.size 0 (.pointer none) := (Hb.new w8 0 (.pointer none))
               clear k0 k1 m0 m1 mf
               have ql : w4.heap.size ≤ w8.heap.size := hb.size
               have hn : bm ≠ w8.heap.size := Nat.ne_of_lt hm.lt
               replace hb := hb.trans (hx.mono hb.size)
               replace hm := hm.on hx
               clear hx
               generalize w8.alloc (Obj.cells #[.int .i64 0, .pointer none] 80) = w9 at hb hl hm ⊢
               generalize w8.heap.size = bl at hl ql hn ⊢
               have k0 := (hb.cell (p := ⟨kb, 0, none⟩) hkl).trans k0w
               have k1 := (hb.cell (p := ⟨kb, 1, none⟩) hkl).trans k1w
               have m0 := hm.c0
               have m1 := hm.c1
               have mf := hm.f
               have l0 := hl.c0
               have l1 := hl.c1
               have lf := hl.f
               refine tr hK (fun hHeld => ?_)
               clear hK K)
              refine tc 10 fun K hK => ?_
              (go_simp
               clear k0 k1 m0 m1 mf l0 l1 lf
               replace hb := (hb.setCell (p := ⟨bm, 0, none⟩) qm (.int .i64 (A : Int))).setCell (p := ⟨bm, 1, none⟩) qm (.pointer (some ⟨cb, 0, none⟩))
               replace hl := (hl.far (b' := bm) (o := 0) (by omega) (.int .i64 (A : Int))).far (b' := bm) (o := 1) (by omega) (.pointer (some ⟨cb, 0, none⟩))
               replace hm := hm.put (A : Int) (.pointer (some ⟨cb, 0, none⟩))
               generalize (w9.setCell ⟨bm, 0, none⟩ (.int .i64 (A : Int))).setCell ⟨bm, 1, none⟩ (.pointer (some ⟨cb, 0, none⟩)) = w10 at hb hm hl ⊢
               have k0 := (hb.cell (p := ⟨kb, 0, none⟩) hkl).trans k0w
               have k1 := (hb.cell (p := ⟨kb, 1, none⟩) hkl).trans k1w
               have m0 := hm.c0
               have m1 := hm.c1
               have mf := hm.f
               have l0 := hl.c0
               have l1 := hl.c1
               have lf := hl.f
               refine tr hK (fun hHeld => ?_)
               clear hK K)
              refine tc 11 fun K hK => ?_
              (go_simp
               clear k0 k1 m0 m1 mf l0 l1 lf
               replace hb := (hb.setCell (p := ⟨bl, 0, none⟩) ql (.int .i64 (B : Int))).setCell (p := ⟨bl, 1, none⟩) ql (.pointer (some ⟨cb, 0, none⟩))
               replace hm := (hm.far (b' := bl) (o := 0) (by omega) (.int .i64 (B : Int))).far (b' := bl) (o := 1) (by omega) (.pointer (some ⟨cb, 0, none⟩))
               replace hl := hl.put (B : Int) (.pointer (some ⟨cb, 0, none⟩))
               generalize (w10.setCell ⟨bl, 0, none⟩ (.int .i64 (B : Int))).setCell ⟨bl, 1, none⟩ (.pointer (some ⟨cb, 0, none⟩)) = w11 at hb hm hl ⊢
               have k0 := (hb.cell (p := ⟨kb, 0, none⟩) hkl).trans k0w
               have k1 := (hb.cell (p := ⟨kb, 1, none⟩) hkl).trans k1w
               have m0 := hm.c0
               have m1 := hm.c1
               have mf := hm.f
               have l0 := hl.c0
               have l1 := hl.c1
               have lf := hl.f
               refine tr hK (fun hHeld => ?_)
               clear hK K)
              refine wpAnyH_done (by kernel_rfl) ?_ _
              go_wp2_with fail
              go_meet
              exact ⟨bm, bl, rfl, rfl, qm, ql, hm, hl, hb⟩
            · (go_simp
               have hx : Below w7.heap.size w7 (w7.alloc (Obj.cells #[.int .i64 0, .pointer none] 80)) := ((Below.refl _ _).alloc (Nat.le_refl _) _)
               have hl : Hb (w7.alloc (Obj.cells #[.int .i64 0, .pointer none] 80)) w7.heap.size 0 (.pointer none) := (Hb.new w7 0 (.pointer none))
               clear k0 k1
               have ql : w4.heap.size ≤ w7.heap.size := hb.size
               
               replace hb := hb.trans (hx.mono hb.size)
               
               clear hx
               generalize w7.alloc (Obj.cells #[.int .i64 0, .pointer none] 80) = w9 at hb hl  ⊢
               generalize w7.heap.size = bl at hl ql  ⊢
               have k0 := (hb.cell (p := ⟨kb, 0, none⟩) hkl).trans k0w
               have k1 := (hb.cell (p := ⟨kb, 1, none⟩) hkl).trans k1w
               have l0 := hl.c0
               have l1 := hl.c1
               have lf := hl.f
               refine tr hK (fun hHeld => ?_)
               clear hK K)
              refine tc 8 fun K hK => ?_
              (go_simp
               have hx : Below w9.heap.size w9 (w9.alloc (Obj.cells #[.int .i64 0, .pointer none] 80)) := ((Below.refl _ _).alloc (Nat.le_refl _) _)
               have hm : Hb (w9.alloc (Obj.cells #[.int .i64 0, .pointer none] 80)) w9.heap.size 0 (.pointer none) := (Hb.new w9 0 (.pointer none))
               clear k0 k1 l0 l1 lf
               have qm : w4.heap.size ≤ w9.heap.size := hb.size
               have hn : bl ≠ w9.heap.size := Nat.ne_of_lt hl.lt
               replace hb := hb.trans (hx.mono hb.size)
               replace hl := hl.on hx
               clear hx
               generalize w9.alloc (Obj.cells #[.int .i64 0, .pointer none] 80) = w8 at hb hm hl ⊢
               generalize w9.heap.size = bm at hm qm hn ⊢
               have k0 := (hb.cell (p := ⟨kb, 0, none⟩) hkl).trans k0w
               have k1 := (hb.cell (p := ⟨kb, 1, none⟩) hkl).trans k1w
               have m0 := hm.c0
               have m1 := hm.c1
               have mf := hm.f
               have l0 := hl.c0
               have l1 := hl.c1
               have lf := hl.f
               refine tr hK (fun hHeld => ?_)
               clear hK K)
              refine tc 10 fun K hK => ?_
              (go_simp
               clear k0 k1 m0 m1 mf l0 l1 lf
               replace hb := (hb.setCell (p := ⟨bm, 0, none⟩) qm (.int .i64 (A : Int))).setCell (p := ⟨bm, 1, none⟩) qm (.pointer (some ⟨cb, 0, none⟩))
               replace hl := (hl.far (b' := bm) (o := 0) (by omega) (.int .i64 (A : Int))).far (b' := bm) (o := 1) (by omega) (.pointer (some ⟨cb, 0, none⟩))
               replace hm := hm.put (A : Int) (.pointer (some ⟨cb, 0, none⟩))
               generalize (w8.setCell ⟨bm, 0, none⟩ (.int .i64 (A : Int))).setCell ⟨bm, 1, none⟩ (.pointer (some ⟨cb, 0, none⟩)) = w10 at hb hm hl ⊢
               have k0 := (hb.cell (p := ⟨kb, 0, none⟩) hkl).trans k0w
               have k1 := (hb.cell (p := ⟨kb, 1, none⟩) hkl).trans k1w
               have m0 := hm.c0
               have m1 := hm.c1
               have mf := hm.f
               have l0 := hl.c0
               have l1 := hl.c1
               have lf := hl.f
               refine tr hK (fun hHeld => ?_)
               clear hK K)
              refine tc 11 fun K hK => ?_
              (go_simp
               clear k0 k1 m0 m1 mf l0 l1 lf
               replace hb := (hb.setCell (p := ⟨bl, 0, none⟩) ql (.int .i64 (B : Int))).setCell (p := ⟨bl, 1, none⟩) ql (.pointer (some ⟨cb, 0, none⟩))
               replace hm := (hm.far (b' := bl) (o := 0) (by omega) (.int .i64 (B : Int))).far (b' := bl) (o := 1) (by omega) (.pointer (some ⟨cb, 0, none⟩))
               replace hl := hl.put (B : Int) (.pointer (some ⟨cb, 0, none⟩))
               generalize (w10.setCell ⟨bl, 0, none⟩ (.int .i64 (B : Int))).setCell ⟨bl, 1, none⟩ (.pointer (some ⟨cb, 0, none⟩)) = w11 at hb hm hl ⊢
               have k0 := (hb.cell (p := ⟨kb, 0, none⟩) hkl).trans k0w
               have k1 := (hb.cell (p := ⟨kb, 1, none⟩) hkl).trans k1w
               have m0 := hm.c0
               have m1 := hm.c1
               have mf := hm.f
               have l0 := hl.c0
               have l1 := hl.c1
               have lf := hl.f
               refine tr hK (fun hHeld => ?_)
               clear hK K)
              refine wpAnyH_done (by kernel_rfl) ?_ _
              go_wp2_with fail
              go_meet
              exact ⟨bm, bl, rfl, rfl, qm, ql, hm, hl, hb⟩
          · (go_simp
             have hx : Below w3.heap.size w3 (w3.alloc (Obj.cells #[.int .i64 0, .pointer none] 80)) := ((Below.refl _ _).alloc (Nat.le_refl _) _)
             have hm : Hb (w3.alloc (Obj.cells #[.int .i64 0, .pointer none] 80)) w3.heap.size 0 (.pointer none) := (Hb.new w3 0 (.pointer none))
             clear k0 k1
             have qm : w4.heap.size ≤ w3.heap.size := hb.size
             
             replace hb := hb.trans (hx.mono hb.size)
             
             clear hx
             generalize w3.alloc (Obj.cells #[.int .i64 0, .pointer none] 80) = w8 at hb hm  ⊢
             generalize w3.heap.size = bm at hm qm  ⊢
             have k0 := (hb.cell (p := ⟨kb, 0, none⟩) hkl).trans k0w
             have k1 := (hb.cell (p := ⟨kb, 1, none⟩) hkl).trans k1w
             have m0 := hm.c0
             have m1 := hm.c1
             have mf := hm.f
             refine tr hK (fun hHeld => ?_)
             clear hK K)
            refine wpAnyH_ready (rs := [7, 9]) (by kernel_rfl) (by simp) ?_
            refine AllReadyH.cons rfl (fun K hK => ?_) (AllReadyH.cons rfl (fun K hK => ?_) AllReadyH.nil)
            · (go_simp
               (go_at_call 63; refine (handle_any cb B _).mono ?_; rintro e w7 ⟨rfl, hx⟩)
               clear k0 k1 m0 m1 mf
               replace hb := hb.trans (hx.mono hb.size)
               replace hm := hm.on hx
               clear hx
               have k0 := (hb.cell (p := ⟨kb, 0, none⟩) hkl).trans k0w
               have k1 := (hb.cell (p := ⟨kb, 1, none⟩) hkl).trans k1w
               have m0 := hm.c0
               have m1 := hm.c1
               have mf := hm.f
               (try go_wp2_with fail)
               refine tr hK (fun hHeld => ?_)
               clear hK K)
              refine tc 9 fun K hK => ?_
              (go_simp
               have hx : Below w7.heap.size w7 (w7.alloc (Obj.cells #[.int .i64 0, .pointer none] 80)) := ((Below.refl _ _).alloc (Nat.le_refl _) _)
               have hl : Hb (w7.alloc (Obj.cells #[.int .i64 0, .pointer none] 80)) w7.heap.size 0 (.pointer none) := (Hb.new w7 0 (.pointer none))
               clear k0 k1 m0 m1 mf
               have ql : w4.heap.size ≤ w7.heap.size := hb.size
               have hn : bm ≠ w7.heap.size := Nat.ne_of_lt hm.lt
               replace hb := hb.trans (hx.mono hb.size)
               replace hm := hm.on hx
               clear hx
               generalize w7.alloc (Obj.cells #[.int .i64 0, .pointer none] 80) = w9 at hb hl hm ⊢
               generalize w7.heap.size = bl at hl ql hn ⊢
               have k0 := (hb.cell (p := ⟨kb, 0, none⟩) hkl).trans k0w
               have k1 := (hb.cell (p := ⟨kb, 1, none⟩) hkl).trans k1w
               have m0 := hm.c0
               have m1 := hm.c1
               have mf := hm.f
               have l0 := hl.c0
               have l1 := hl.c1
               have lf := hl.f
               refine tr hK (fun hHeld => ?_)
               clear hK K)
              refine tc 10 fun K hK => ?_
              (go_simp
               clear k0 k1 m0 m1 mf l0 l1 lf
               replace hb := (hb.setCell (p := ⟨bm, 0, none⟩) qm (.int .i64 (A : Int))).setCell (p := ⟨bm, 1, none⟩) qm (.pointer (some ⟨cb, 0, none⟩))
               replace hl := (hl.far (b' := bm) (o := 0) (by omega) (.int .i64 (A : Int))).far (b' := bm) (o := 1) (by omega) (.pointer (some ⟨cb, 0, none⟩))
               replace hm := hm.put (A : Int) (.pointer (some ⟨cb, 0, none⟩))
               generalize (w9.setCell ⟨bm, 0, none⟩ (.int .i64 (A : Int))).setCell ⟨bm, 1, none⟩ (.pointer (some ⟨cb, 0, none⟩)) = w10 at hb hm hl ⊢
               have k0 := (hb.cell (p := ⟨kb, 0, none⟩) hkl).trans k0w
               have k1 := (hb.cell (p := ⟨kb, 1, none⟩) hkl).trans k1w
               have m0 := hm.c0
               have m1 := hm.c1
               have mf := hm.f
               have l0 := hl.c0
               have l1 := hl.c1
               have lf := hl.f
               refine tr hK (fun hHeld => ?_)
               clear hK K)
              refine tc 11 fun K hK => ?_
              (go_simp
               clear k0 k1 m0 m1 mf l0 l1 lf
               replace hb := (hb.setCell (p := ⟨bl, 0, none⟩) ql (.int .i64 (B : Int))).setCell (p := ⟨bl, 1, none⟩) ql (.pointer (some ⟨cb, 0, none⟩))
               replace hm := (hm.far (b' := bl) (o := 0) (by omega) (.int .i64 (B : Int))).far (b' := bl) (o := 1) (by omega) (.pointer (some ⟨cb, 0, none⟩))
               replace hl := hl.put (B : Int) (.pointer (some ⟨cb, 0, none⟩))
               generalize (w10.setCell ⟨bl, 0, none⟩ (.int .i64 (B : Int))).setCell ⟨bl, 1, none⟩ (.pointer (some ⟨cb, 0, none⟩)) = w11 at hb hm hl ⊢
               have k0 := (hb.cell (p := ⟨kb, 0, none⟩) hkl).trans k0w
               have k1 := (hb.cell (p := ⟨kb, 1, none⟩) hkl).trans k1w
               have m0 := hm.c0
               have m1 := hm.c1
               have mf := hm.f
               have l0 := hl.c0
               have l1 := hl.c1
               have lf := hl.f
               refine tr hK (fun hHeld => ?_)
               clear hK K)
              refine wpAnyH_done (by kernel_rfl) ?_ _
              go_wp2_with fail
              go_meet
              exact ⟨bm, bl, rfl, rfl, qm, ql, hm, hl, hb⟩
            · (go_simp
               have hx : Below w8.heap.size w8 (w8.alloc (Obj.cells #[.int .i64 0, .pointer none] 80)) := ((Below.refl _ _).alloc (Nat.le_refl _) _)
               have hl : Hb (w8.alloc (Obj.cells #[.int .i64 0, .pointer none] 80)) w8.heap.size 0 (.pointer none) := (Hb.new w8 0 (.pointer none))
               clear k0 k1 m0 m1 mf
               have ql : w4.heap.size ≤ w8.heap.size := hb.size
               have hn : bm ≠ w8.heap.size := Nat.ne_of_lt hm.lt
               replace hb := hb.trans (hx.mono hb.size)
               replace hm := hm.on hx
               clear hx
               generalize w8.alloc (Obj.cells #[.int .i64 0, .pointer none] 80) = w9 at hb hl hm ⊢
               generalize w8.heap.size = bl at hl ql hn ⊢
               have k0 := (hb.cell (p := ⟨kb, 0, none⟩) hkl).trans k0w
               have k1 := (hb.cell (p := ⟨kb, 1, none⟩) hkl).trans k1w
               have m0 := hm.c0
               have m1 := hm.c1
               have mf := hm.f
               have l0 := hl.c0
               have l1 := hl.c1
               have lf := hl.f
               refine tr hK (fun hHeld => ?_)
               clear hK K)
              refine tc 7 fun K hK => ?_
              (go_simp
               (go_at_call 63; refine (handle_any cb B _).mono ?_; rintro e w7 ⟨rfl, hx⟩)
               clear k0 k1 m0 m1 mf l0 l1 lf
               replace hb := hb.trans (hx.mono hb.size)
               replace hm := hm.on hx
               replace hl := hl.on hx
               clear hx
               have k0 := (hb.cell (p := ⟨kb, 0, none⟩) hkl).trans k0w
               have k1 := (hb.cell (p := ⟨kb, 1, none⟩) hkl).trans k1w
               have m0 := hm.c0
               have m1 := hm.c1
               have mf := hm.f
               have l0 := hl.c0
               have l1 := hl.c1
               have lf := hl.f
               (try go_wp2_with fail)
               refine tr hK (fun hHeld => ?_)
               clear hK K)
              refine tc 10 fun K hK => ?_
              (go_simp
               clear k0 k1 m0 m1 mf l0 l1 lf
               replace hb := (hb.setCell (p := ⟨bm, 0, none⟩) qm (.int .i64 (A : Int))).setCell (p := ⟨bm, 1, none⟩) qm (.pointer (some ⟨cb, 0, none⟩))
               replace hl := (hl.far (b' := bm) (o := 0) (by omega) (.int .i64 (A : Int))).far (b' := bm) (o := 1) (by omega) (.pointer (some ⟨cb, 0, none⟩))
               replace hm := hm.put (A : Int) (.pointer (some ⟨cb, 0, none⟩))
               generalize (w7.setCell ⟨bm, 0, none⟩ (.int .i64 (A : Int))).setCell ⟨bm, 1, none⟩ (.pointer (some ⟨cb, 0, none⟩)) = w10 at hb hm hl ⊢
               have k0 := (hb.cell (p := ⟨kb, 0, none⟩) hkl).trans k0w
               have k1 := (hb.cell (p := ⟨kb, 1, none⟩) hkl).trans k1w
               have m0 := hm.c0
               have m1 := hm.c1
               have mf := hm.f
               have l0 := hl.c0
               have l1 := hl.c1
               have lf := hl.f
               refine tr hK (fun hHeld => ?_)
               clear hK K)
              refine tc 11 fun K hK => ?_
              (go_simp
               clear k0 k1 m0 m1 mf l0 l1 lf
               replace hb := (hb.setCell (p := ⟨bl, 0, none⟩) ql (.int .i64 (B : Int))).setCell (p := ⟨bl, 1, none⟩) ql (.pointer (some ⟨cb, 0, none⟩))
               replace hm := (hm.far (b' := bl) (o := 0) (by omega) (.int .i64 (B : Int))).far (b' := bl) (o := 1) (by omega) (.pointer (some ⟨cb, 0, none⟩))
               replace hl := hl.put (B : Int) (.pointer (some ⟨cb, 0, none⟩))
               generalize (w10.setCell ⟨bl, 0, none⟩ (.int .i64 (B : Int))).setCell ⟨bl, 1, none⟩ (.pointer (some ⟨cb, 0, none⟩)) = w11 at hb hm hl ⊢
               have k0 := (hb.cell (p := ⟨kb, 0, none⟩) hkl).trans k0w
               have k1 := (hb.cell (p := ⟨kb, 1, none⟩) hkl).trans k1w
               have m0 := hm.c0
               have m1 := hm.c1
               have mf := hm.f
               have l0 := hl.c0
               have l1 := hl.c1
               have lf := hl.f
               refine tr hK (fun hHeld => ?_)
               clear hK K)
              refine wpAnyH_done (by kernel_rfl) ?_ _
              go_wp2_with fail
              go_meet
              exact ⟨bm, bl, rfl, rfl, qm, ql, hm, hl, hb⟩
          · (go_simp
             have hx : Below w3.heap.size w3 (w3.alloc (Obj.cells #[.int .i64 0, .pointer none] 80)) := ((Below.refl _ _).alloc (Nat.le_refl _) _)
             have hl : Hb (w3.alloc (Obj.cells #[.int .i64 0, .pointer none] 80)) w3.heap.size 0 (.pointer none) := (Hb.new w3 0 (.pointer none))
             clear k0 k1
             have ql : w4.heap.size ≤ w3.heap.size := hb.size
             
             replace hb := hb.trans (hx.mono hb.size)
             
             clear hx
             generalize w3.alloc (Obj.cells #[.int .i64 0, .pointer none] 80) = w9 at hb hl  ⊢
             generalize w3.heap.size = bl at hl ql  ⊢
             have k0 := (hb.cell (p := ⟨kb, 0, none⟩) hkl).trans k0w
             have k1 := (hb.cell (p := ⟨kb, 1, none⟩) hkl).trans k1w
             have l0 := hl.c0
             have l1 := hl.c1
             have lf := hl.f
             refine tr hK (fun hHeld => ?_)
             clear hK K)
            refine wpAnyH_ready (rs := [7, 8]) (by kernel_rfl) (by simp) ?_
            refine AllReadyH.cons rfl (fun K hK => ?_) (AllReadyH.cons rfl (fun K hK => ?_) AllReadyH.nil)
            · (go_simp
               (go_at_call 63; refine (handle_any cb B _).mono ?_; rintro e w7 ⟨rfl, hx⟩)
               clear k0 k1 l0 l1 lf
               replace hb := hb.trans (hx.mono hb.size)
               replace hl := hl.on hx
               clear hx
               have k0 := (hb.cell (p := ⟨kb, 0, none⟩) hkl).trans k0w
               have k1 := (hb.cell (p := ⟨kb, 1, none⟩) hkl).trans k1w
               have l0 := hl.c0
               have l1 := hl.c1
               have lf := hl.f
               (try go_wp2_with fail)
               refine tr hK (fun hHeld => ?_)
               clear hK K)
              refine tc 8 fun K hK => ?_
              (go_simp
               have hx : Below w7.heap.size w7 (w7.alloc (Obj.cells #[.int .i64 0, .pointer none] 80)) := ((Below.refl _ _).alloc (Nat.le_refl _) _)
               have hm : Hb (w7.alloc (Obj.cells #[.int .i64 0, .pointer none] 80)) w7.heap.size 0 (.pointer none) := (Hb.new w7 0 (.pointer none))
               clear k0 k1 l0 l1 lf
               have qm : w4.heap.size ≤ w7.heap.size := hb.size
               have hn : bl ≠ w7.heap.size := Nat.ne_of_lt hl.lt
               replace hb := hb.trans (hx.mono hb.size)
               replace hl := hl.on hx
               clear hx
               generalize w7.alloc (Obj.cells #[.int .i64 0, .pointer none] 80) = w8 at hb hm hl ⊢
               generalize w7.heap.size = bm at hm qm hn ⊢
               have k0 := (hb.cell (p := ⟨kb, 0, none⟩) hkl).trans k0w
               have k1 := (hb.cell (p := ⟨kb, 1, none⟩) hkl).trans k1w
               have m0 := hm.c0
               have m1 := hm.c1
               have mf := hm.f
               have l0 := hl.c0
               have l1 := hl.c1
               have lf := hl.f
               refine tr hK (fun hHeld => ?_)
               clear hK K)
              refine tc 10 fun K hK => ?_
              (go_simp
               clear k0 k1 m0 m1 mf l0 l1 lf
               replace hb := (hb.setCell (p := ⟨bm, 0, none⟩) qm (.int .i64 (A : Int))).setCell (p := ⟨bm, 1, none⟩) qm (.pointer (some ⟨cb, 0, none⟩))
               replace hl := (hl.far (b' := bm) (o := 0) (by omega) (.int .i64 (A : Int))).far (b' := bm) (o := 1) (by omega) (.pointer (some ⟨cb, 0, none⟩))
               replace hm := hm.put (A : Int) (.pointer (some ⟨cb, 0, none⟩))
               generalize (w8.setCell ⟨bm, 0, none⟩ (.int .i64 (A : Int))).setCell ⟨bm, 1, none⟩ (.pointer (some ⟨cb, 0, none⟩)) = w10 at hb hm hl ⊢
               have k0 := (hb.cell (p := ⟨kb, 0, none⟩) hkl).trans k0w
               have k1 := (hb.cell (p := ⟨kb, 1, none⟩) hkl).trans k1w
               have m0 := hm.c0
               have m1 := hm.c1
               have mf := hm.f
               have l0 := hl.c0
               have l1 := hl.c1
               have lf := hl.f
               refine tr hK (fun hHeld => ?_)
               clear hK K)
              refine tc 11 fun K hK => ?_
              (go_simp
               clear k0 k1 m0 m1 mf l0 l1 lf
               replace hb := (hb.setCell (p := ⟨bl, 0, none⟩) ql (.int .i64 (B : Int))).setCell (p := ⟨bl, 1, none⟩) ql (.pointer (some ⟨cb, 0, none⟩))
               replace hm := (hm.far (b' := bl) (o := 0) (by omega) (.int .i64 (B : Int))).far (b' := bl) (o := 1) (by omega) (.pointer (some ⟨cb, 0, none⟩))
               replace hl := hl.put (B : Int) (.pointer (some ⟨cb, 0, none⟩))
               generalize (w10.setCell ⟨bl, 0, none⟩ (.int .i64 (B : Int))).setCell ⟨bl, 1, none⟩ (.pointer (some ⟨cb, 0, none⟩)) = w11 at hb hm hl ⊢
               have k0 := (hb.cell (p := ⟨kb, 0, none⟩) hkl).trans k0w
               have k1 := (hb.cell (p := ⟨kb, 1, none⟩) hkl).trans k1w
               have m0 := hm.c0
               have m1 := hm.c1
               have mf := hm.f
               have l0 := hl.c0
               have l1 := hl.c1
               have lf := hl.f
               refine tr hK (fun hHeld => ?_)
               clear hK K)
              refine wpAnyH_done (by kernel_rfl) ?_ _
              go_wp2_with fail
              go_meet
              exact ⟨bm, bl, rfl, rfl, qm, ql, hm, hl, hb⟩
            · (go_simp
               have hx : Below w9.heap.size w9 (w9.alloc (Obj.cells #[.int .i64 0, .pointer none] 80)) := ((Below.refl _ _).alloc (Nat.le_refl _) _)
               have hm : Hb (w9.alloc (Obj.cells #[.int .i64 0, .pointer none] 80)) w9.heap.size 0 (.pointer none) := (Hb.new w9 0 (.pointer none))
               clear k0 k1 l0 l1 lf
               have qm : w4.heap.size ≤ w9.heap.size := hb.size
               have hn : bl ≠ w9.heap.size := Nat.ne_of_lt hl.lt
               replace hb := hb.trans (hx.mono hb.size)
               replace hl := hl.on hx
               clear hx
               generalize w9.alloc (Obj.cells #[.int .i64 0, .pointer none] 80) = w8 at hb hm hl ⊢
               generalize w9.heap.size = bm at hm qm hn ⊢
               have k0 := (hb.cell (p := ⟨kb, 0, none⟩) hkl).trans k0w
               have k1 := (hb.cell (p := ⟨kb, 1, none⟩) hkl).trans k1w
               have m0 := hm.c0
               have m1 := hm.c1
               have mf := hm.f
               have l0 := hl.c0
               have l1 := hl.c1
               have lf := hl.f
               refine tr hK (fun hHeld => ?_)
               clear hK K)
              refine tc 7 fun K hK => ?_
              (go_simp
               (go_at_call 63; refine (handle_any cb B _).mono ?_; rintro e w7 ⟨rfl, hx⟩)
               clear k0 k1 m0 m1 mf l0 l1 lf
               replace hb := hb.trans (hx.mono hb.size)
               replace hm := hm.on hx
               replace hl := hl.on hx
               clear hx
               have k0 := (hb.cell (p := ⟨kb, 0, none⟩) hkl).trans k0w
               have k1 := (hb.cell (p := ⟨kb, 1, none⟩) hkl).trans k1w
               have m0 := hm.c0
               have m1 := hm.c1
               have mf := hm.f
               have l0 := hl.c0
               have l1 := hl.c1
               have lf := hl.f
               (try go_wp2_with fail)
               refine tr hK (fun hHeld => ?_)
               clear hK K)
              refine tc 10 fun K hK => ?_
              (go_simp
               clear k0 k1 m0 m1 mf l0 l1 lf
               replace hb := (hb.setCell (p := ⟨bm, 0, none⟩) qm (.int .i64 (A : Int))).setCell (p := ⟨bm, 1, none⟩) qm (.pointer (some ⟨cb, 0, none⟩))
               replace hl := (hl.far (b' := bm) (o := 0) (by omega) (.int .i64 (A : Int))).far (b' := bm) (o := 1) (by omega) (.pointer (some ⟨cb, 0, none⟩))
               replace hm := hm.put (A : Int) (.pointer (some ⟨cb, 0, none⟩))
               generalize (w7.setCell ⟨bm, 0, none⟩ (.int .i64 (A : Int))).setCell ⟨bm, 1, none⟩ (.pointer (some ⟨cb, 0, none⟩)) = w10 at hb hm hl ⊢
               have k0 := (hb.cell (p := ⟨kb, 0, none⟩) hkl).trans k0w
               have k1 := (hb.cell (p := ⟨kb, 1, none⟩) hkl).trans k1w
               have m0 := hm.c0
               have m1 := hm.c1
               have mf := hm.f
               have l0 := hl.c0
               have l1 := hl.c1
               have lf := hl.f
               refine tr hK (fun hHeld => ?_)
               clear hK K)
              refine tc 11 fun K hK => ?_
              (go_simp
               clear k0 k1 m0 m1 mf l0 l1 lf
               replace hb := (hb.setCell (p := ⟨bl, 0, none⟩) ql (.int .i64 (B : Int))).setCell (p := ⟨bl, 1, none⟩) ql (.pointer (some ⟨cb, 0, none⟩))
               replace hm := (hm.far (b' := bl) (o := 0) (by omega) (.int .i64 (B : Int))).far (b' := bl) (o := 1) (by omega) (.pointer (some ⟨cb, 0, none⟩))
               replace hl := hl.put (B : Int) (.pointer (some ⟨cb, 0, none⟩))
               generalize (w10.setCell ⟨bl, 0, none⟩ (.int .i64 (B : Int))).setCell ⟨bl, 1, none⟩ (.pointer (some ⟨cb, 0, none⟩)) = w11 at hb hm hl ⊢
               have k0 := (hb.cell (p := ⟨kb, 0, none⟩) hkl).trans k0w
               have k1 := (hb.cell (p := ⟨kb, 1, none⟩) hkl).trans k1w
               have m0 := hm.c0
               have m1 := hm.c1
               have mf := hm.f
               have l0 := hl.c0
               have l1 := hl.c1
               have lf := hl.f
               refine tr hK (fun hHeld => ?_)
               clear hK K)
              refine wpAnyH_done (by kernel_rfl) ?_ _
              go_wp2_with fail
              go_meet
              exact ⟨bm, bl, rfl, rfl, qm, ql, hm, hl, hb⟩
        · (go_simp
           have hx : Below w4.heap.size w4 ((w4.alloc (Obj.cells #[.int .i64 0, .pointer none] 80)).drew) := Below.drew ((Below.refl _ _).alloc (Nat.le_refl _) _)
           have hm : Hb ((w4.alloc (Obj.cells #[.int .i64 0, .pointer none] 80)).drew) w4.heap.size 0 (.pointer none) := (Hb.new w4 0 (.pointer none)).on (Below.drew (Below.refl _ _))
           clear k0 k1
           
           
           replace hb := hb.trans (hx.mono hb.size)
           
           clear hx
           generalize (w4.alloc (Obj.cells #[.int .i64 0, .pointer none] 80)).drew = w8 at hb hm  ⊢
           generalize hq : w4.heap.size = bm at hm ⊢
           have qm : w4.heap.size ≤ bm := Nat.le_of_eq hq
           clear hq
           have k0 := (hb.cell (p := ⟨kb, 0, none⟩) hkl).trans k0w
           have k1 := (hb.cell (p := ⟨kb, 1, none⟩) hkl).trans k1w
           have m0 := hm.c0
           have m1 := hm.c1
           have mf := hm.f
           refine tr hK (fun hHeld => ?_)
           clear hK K)
          refine wpAnyH_ready (rs := [3, 9]) (by kernel_rfl) (by simp) ?_
          refine AllReadyH.cons rfl (fun K hK => ?_) (AllReadyH.cons rfl (fun K hK => ?_) AllReadyH.nil)
          · (go_simp
             (go_at_call 63; refine (handle_any cb A _).mono ?_; rintro e w3 ⟨rfl, hx⟩)
             clear k0 k1 m0 m1 mf
             replace hb := hb.trans (hx.mono hb.size)
             replace hm := hm.on hx
             clear hx
             have k0 := (hb.cell (p := ⟨kb, 0, none⟩) hkl).trans k0w
             have k1 := (hb.cell (p := ⟨kb, 1, none⟩) hkl).trans k1w
             have m0 := hm.c0
             have m1 := hm.c1
             have mf := hm.f
             (try go_wp2_with fail)
             refine tr hK (fun hHeld => ?_)
             clear hK K)
            refine wpAnyH_ready (rs := [7, 9]) (by kernel_rfl) (by simp) ?_
            refine AllReadyH.cons rfl (fun K hK => ?_) (AllReadyH.cons rfl (fun K hK => ?_) AllReadyH.nil)
            · (go_simp
               (go_at_call 63; refine (handle_any cb B _).mono ?_; rintro e w7 ⟨rfl, hx⟩)
               clear k0 k1 m0 m1 mf
               replace hb := hb.trans (hx.mono hb.size)
               replace hm := hm.on hx
               clear hx
               have k0 := (hb.cell (p := ⟨kb, 0, none⟩) hkl).trans k0w
               have k1 := (hb.cell (p := ⟨kb, 1, none⟩) hkl).trans k1w
               have m0 := hm.c0
               have m1 := hm.c1
               have mf := hm.f
               (try go_wp2_with fail)
               refine tr hK (fun hHeld => ?_)
               clear hK K)
              refine tc 9 fun K hK => ?_
              (go_simp
               have hx : Below w7.heap.size w7 (w7.alloc (Obj.cells #[.int .i64 0, .pointer none] 80)) := ((Below.refl _ _).alloc (Nat.le_refl _) _)
               have hl : Hb (w7.alloc (Obj.cells #[.int .i64 0, .pointer none] 80)) w7.heap.size 0 (.pointer none) := (Hb.new w7 0 (.pointer none))
               clear k0 k1 m0 m1 mf
               have ql : w4.heap.size ≤ w7.heap.size := hb.size
               have hn : bm ≠ w7.heap.size := Nat.ne_of_lt hm.lt
               replace hb := hb.trans (hx.mono hb.size)
               replace hm := hm.on hx
               clear hx
               generalize w7.alloc (Obj.cells #[.int .i64 0, .pointer none] 80) = w9 at hb hl hm ⊢
               generalize w7.heap.size = bl at hl ql hn ⊢
               have k0 := (hb.cell (p := ⟨kb, 0, none⟩) hkl).trans k0w
               have k1 := (hb.cell (p := ⟨kb, 1, none⟩) hkl).trans k1w
               have m0 := hm.c0
               have m1 := hm.c1
               have mf := hm.f
               have l0 := hl.c0
               have l1 := hl.c1
               have lf := hl.f
               refine tr hK (fun hHeld => ?_)
               clear hK K)
              refine tc 10 fun K hK => ?_
              (go_simp
               clear k0 k1 m0 m1 mf l0 l1 lf
               replace hb := (hb.setCell (p := ⟨bm, 0, none⟩) qm (.int .i64 (A : Int))).setCell (p := ⟨bm, 1, none⟩) qm (.pointer (some ⟨cb, 0, none⟩))
               replace hl := (hl.far (b' := bm) (o := 0) (by omega) (.int .i64 (A : Int))).far (b' := bm) (o := 1) (by omega) (.pointer (some ⟨cb, 0, none⟩))
               replace hm := hm.put (A : Int) (.pointer (some ⟨cb, 0, none⟩))
               generalize (w9.setCell ⟨bm, 0, none⟩ (.int .i64 (A : Int))).setCell ⟨bm, 1, none⟩ (.pointer (some ⟨cb, 0, none⟩)) = w10 at hb hm hl ⊢
               have k0 := (hb.cell (p := ⟨kb, 0, none⟩) hkl).trans k0w
               have k1 := (hb.cell (p := ⟨kb, 1, none⟩) hkl).trans k1w
               have m0 := hm.c0
               have m1 := hm.c1
               have mf := hm.f
               have l0 := hl.c0
               have l1 := hl.c1
               have lf := hl.f
               refine tr hK (fun hHeld => ?_)
               clear hK K)
              refine tc 11 fun K hK => ?_
              (go_simp
               clear k0 k1 m0 m1 mf l0 l1 lf
               replace hb := (hb.setCell (p := ⟨bl, 0, none⟩) ql (.int .i64 (B : Int))).setCell (p := ⟨bl, 1, none⟩) ql (.pointer (some ⟨cb, 0, none⟩))
               replace hm := (hm.far (b' := bl) (o := 0) (by omega) (.int .i64 (B : Int))).far (b' := bl) (o := 1) (by omega) (.pointer (some ⟨cb, 0, none⟩))
               replace hl := hl.put (B : Int) (.pointer (some ⟨cb, 0, none⟩))
               generalize (w10.setCell ⟨bl, 0, none⟩ (.int .i64 (B : Int))).setCell ⟨bl, 1, none⟩ (.pointer (some ⟨cb, 0, none⟩)) = w11 at hb hm hl ⊢
               have k0 := (hb.cell (p := ⟨kb, 0, none⟩) hkl).trans k0w
               have k1 := (hb.cell (p := ⟨kb, 1, none⟩) hkl).trans k1w
               have m0 := hm.c0
               have m1 := hm.c1
               have mf := hm.f
               have l0 := hl.c0
               have l1 := hl.c1
               have lf := hl.f
               refine tr hK (fun hHeld => ?_)
               clear hK K)
              refine wpAnyH_done (by kernel_rfl) ?_ _
              go_wp2_with fail
              go_meet
              exact ⟨bm, bl, rfl, rfl, qm, ql, hm, hl, hb⟩
            · (go_simp
               have hx : Below w3.heap.size w3 (w3.alloc (Obj.cells #[.int .i64 0, .pointer none] 80)) := ((Below.refl _ _).alloc (Nat.le_refl _) _)
               have hl : Hb (w3.alloc (Obj.cells #[.int .i64 0, .pointer none] 80)) w3.heap.size 0 (.pointer none) := (Hb.new w3 0 (.pointer none))
               clear k0 k1 m0 m1 mf
               have ql : w4.heap.size ≤ w3.heap.size := hb.size
               have hn : bm ≠ w3.heap.size := Nat.ne_of_lt hm.lt
               replace hb := hb.trans (hx.mono hb.size)
               replace hm := hm.on hx
               clear hx
               generalize w3.alloc (Obj.cells #[.int .i64 0, .pointer none] 80) = w9 at hb hl hm ⊢
               generalize w3.heap.size = bl at hl ql hn ⊢
               have k0 := (hb.cell (p := ⟨kb, 0, none⟩) hkl).trans k0w
               have k1 := (hb.cell (p := ⟨kb, 1, none⟩) hkl).trans k1w
               have m0 := hm.c0
               have m1 := hm.c1
               have mf := hm.f
               have l0 := hl.c0
               have l1 := hl.c1
               have lf := hl.f
               refine tr hK (fun hHeld => ?_)
               clear hK K)
              refine tc 7 fun K hK => ?_
              (go_simp
               (go_at_call 63; refine (handle_any cb B _).mono ?_; rintro e w7 ⟨rfl, hx⟩)
               clear k0 k1 m0 m1 mf l0 l1 lf
               replace hb := hb.trans (hx.mono hb.size)
               replace hm := hm.on hx
               replace hl := hl.on hx
               clear hx
               have k0 := (hb.cell (p := ⟨kb, 0, none⟩) hkl).trans k0w
               have k1 := (hb.cell (p := ⟨kb, 1, none⟩) hkl).trans k1w
               have m0 := hm.c0
               have m1 := hm.c1
               have mf := hm.f
               have l0 := hl.c0
               have l1 := hl.c1
               have lf := hl.f
               (try go_wp2_with fail)
               refine tr hK (fun hHeld => ?_)
               clear hK K)
              refine tc 10 fun K hK => ?_
              (go_simp
               clear k0 k1 m0 m1 mf l0 l1 lf
               replace hb := (hb.setCell (p := ⟨bm, 0, none⟩) qm (.int .i64 (A : Int))).setCell (p := ⟨bm, 1, none⟩) qm (.pointer (some ⟨cb, 0, none⟩))
               replace hl := (hl.far (b' := bm) (o := 0) (by omega) (.int .i64 (A : Int))).far (b' := bm) (o := 1) (by omega) (.pointer (some ⟨cb, 0, none⟩))
               replace hm := hm.put (A : Int) (.pointer (some ⟨cb, 0, none⟩))
               generalize (w7.setCell ⟨bm, 0, none⟩ (.int .i64 (A : Int))).setCell ⟨bm, 1, none⟩ (.pointer (some ⟨cb, 0, none⟩)) = w10 at hb hm hl ⊢
               have k0 := (hb.cell (p := ⟨kb, 0, none⟩) hkl).trans k0w
               have k1 := (hb.cell (p := ⟨kb, 1, none⟩) hkl).trans k1w
               have m0 := hm.c0
               have m1 := hm.c1
               have mf := hm.f
               have l0 := hl.c0
               have l1 := hl.c1
               have lf := hl.f
               refine tr hK (fun hHeld => ?_)
               clear hK K)
              refine tc 11 fun K hK => ?_
              (go_simp
               clear k0 k1 m0 m1 mf l0 l1 lf
               replace hb := (hb.setCell (p := ⟨bl, 0, none⟩) ql (.int .i64 (B : Int))).setCell (p := ⟨bl, 1, none⟩) ql (.pointer (some ⟨cb, 0, none⟩))
               replace hm := (hm.far (b' := bl) (o := 0) (by omega) (.int .i64 (B : Int))).far (b' := bl) (o := 1) (by omega) (.pointer (some ⟨cb, 0, none⟩))
               replace hl := hl.put (B : Int) (.pointer (some ⟨cb, 0, none⟩))
               generalize (w10.setCell ⟨bl, 0, none⟩ (.int .i64 (B : Int))).setCell ⟨bl, 1, none⟩ (.pointer (some ⟨cb, 0, none⟩)) = w11 at hb hm hl ⊢
               have k0 := (hb.cell (p := ⟨kb, 0, none⟩) hkl).trans k0w
               have k1 := (hb.cell (p := ⟨kb, 1, none⟩) hkl).trans k1w
               have m0 := hm.c0
               have m1 := hm.c1
               have mf := hm.f
               have l0 := hl.c0
               have l1 := hl.c1
               have lf := hl.f
               refine tr hK (fun hHeld => ?_)
               clear hK K)
              refine wpAnyH_done (by kernel_rfl) ?_ _
              go_wp2_with fail
              go_meet
              exact ⟨bm, bl, rfl, rfl, qm, ql, hm, hl, hb⟩
          · (go_simp
             have hx : Below w8.heap.size w8 (w8.alloc (Obj.cells #[.int .i64 0, .pointer none] 80)) := ((Below.refl _ _).alloc (Nat.le_refl _) _)
             have hl : Hb (w8.alloc (Obj.cells #[.int .i64 0, .pointer none] 80)) w8.heap.size 0 (.pointer none) := (Hb.new w8 0 (.pointer none))
             clear k0 k1 m0 m1 mf
             have ql : w4.heap.size ≤ w8.heap.size := hb.size
             have hn : bm ≠ w8.heap.size := Nat.ne_of_lt hm.lt
             replace hb := hb.trans (hx.mono hb.size)
             replace hm := hm.on hx
             clear hx
             generalize w8.alloc (Obj.cells #[.int .i64 0, .pointer none] 80) = w9 at hb hl hm ⊢
             generalize w8.heap.size = bl at hl ql hn ⊢
             have k0 := (hb.cell (p := ⟨kb, 0, none⟩) hkl).trans k0w
             have k1 := (hb.cell (p := ⟨kb, 1, none⟩) hkl).trans k1w
             have m0 := hm.c0
             have m1 := hm.c1
             have mf := hm.f
             have l0 := hl.c0
             have l1 := hl.c1
             have lf := hl.f
             refine tr hK (fun hHeld => ?_)
             clear hK K)
            refine tc 3 fun K hK => ?_
            (go_simp
             (go_at_call 63; refine (handle_any cb A _).mono ?_; rintro e w3 ⟨rfl, hx⟩)
             clear k0 k1 m0 m1 mf l0 l1 lf
             replace hb := hb.trans (hx.mono hb.size)
             replace hm := hm.on hx
             replace hl := hl.on hx
             clear hx
             have k0 := (hb.cell (p := ⟨kb, 0, none⟩) hkl).trans k0w
             have k1 := (hb.cell (p := ⟨kb, 1, none⟩) hkl).trans k1w
             have m0 := hm.c0
             have m1 := hm.c1
             have mf := hm.f
             have l0 := hl.c0
             have l1 := hl.c1
             have lf := hl.f
             (try go_wp2_with fail)
             refine tr hK (fun hHeld => ?_)
             clear hK K)
            refine tc 7 fun K hK => ?_
            (go_simp
             (go_at_call 63; refine (handle_any cb B _).mono ?_; rintro e w7 ⟨rfl, hx⟩)
             clear k0 k1 m0 m1 mf l0 l1 lf
             replace hb := hb.trans (hx.mono hb.size)
             replace hm := hm.on hx
             replace hl := hl.on hx
             clear hx
             have k0 := (hb.cell (p := ⟨kb, 0, none⟩) hkl).trans k0w
             have k1 := (hb.cell (p := ⟨kb, 1, none⟩) hkl).trans k1w
             have m0 := hm.c0
             have m1 := hm.c1
             have mf := hm.f
             have l0 := hl.c0
             have l1 := hl.c1
             have lf := hl.f
             (try go_wp2_with fail)
             refine tr hK (fun hHeld => ?_)
             clear hK K)
            refine tc 10 fun K hK => ?_
            (go_simp
             clear k0 k1 m0 m1 mf l0 l1 lf
             replace hb := (hb.setCell (p := ⟨bm, 0, none⟩) qm (.int .i64 (A : Int))).setCell (p := ⟨bm, 1, none⟩) qm (.pointer (some ⟨cb, 0, none⟩))
             replace hl := (hl.far (b' := bm) (o := 0) (by omega) (.int .i64 (A : Int))).far (b' := bm) (o := 1) (by omega) (.pointer (some ⟨cb, 0, none⟩))
             replace hm := hm.put (A : Int) (.pointer (some ⟨cb, 0, none⟩))
             generalize (w7.setCell ⟨bm, 0, none⟩ (.int .i64 (A : Int))).setCell ⟨bm, 1, none⟩ (.pointer (some ⟨cb, 0, none⟩)) = w10 at hb hm hl ⊢
             have k0 := (hb.cell (p := ⟨kb, 0, none⟩) hkl).trans k0w
             have k1 := (hb.cell (p := ⟨kb, 1, none⟩) hkl).trans k1w
             have m0 := hm.c0
             have m1 := hm.c1
             have mf := hm.f
             have l0 := hl.c0
             have l1 := hl.c1
             have lf := hl.f
             refine tr hK (fun hHeld => ?_)
             clear hK K)
            refine tc 11 fun K hK => ?_
            (go_simp
             clear k0 k1 m0 m1 mf l0 l1 lf
             replace hb := (hb.setCell (p := ⟨bl, 0, none⟩) ql (.int .i64 (B : Int))).setCell (p := ⟨bl, 1, none⟩) ql (.pointer (some ⟨cb, 0, none⟩))
             replace hm := (hm.far (b' := bl) (o := 0) (by omega) (.int .i64 (B : Int))).far (b' := bl) (o := 1) (by omega) (.pointer (some ⟨cb, 0, none⟩))
             replace hl := hl.put (B : Int) (.pointer (some ⟨cb, 0, none⟩))
             generalize (w10.setCell ⟨bl, 0, none⟩ (.int .i64 (B : Int))).setCell ⟨bl, 1, none⟩ (.pointer (some ⟨cb, 0, none⟩)) = w11 at hb hm hl ⊢
             have k0 := (hb.cell (p := ⟨kb, 0, none⟩) hkl).trans k0w
             have k1 := (hb.cell (p := ⟨kb, 1, none⟩) hkl).trans k1w
             have m0 := hm.c0
             have m1 := hm.c1
             have mf := hm.f
             have l0 := hl.c0
             have l1 := hl.c1
             have lf := hl.f
             refine tr hK (fun hHeld => ?_)
             clear hK K)
            refine wpAnyH_done (by kernel_rfl) ?_ _
            go_wp2_with fail
            go_meet
            exact ⟨bm, bl, rfl, rfl, qm, ql, hm, hl, hb⟩
        · (go_simp
           have hx : Below w4.heap.size w4 ((w4.alloc (Obj.cells #[.int .i64 0, .pointer none] 80)).drew) := Below.drew ((Below.refl _ _).alloc (Nat.le_refl _) _)
           have hl : Hb ((w4.alloc (Obj.cells #[.int .i64 0, .pointer none] 80)).drew) w4.heap.size 0 (.pointer none) := (Hb.new w4 0 (.pointer none)).on (Below.drew (Below.refl _ _))
           clear k0 k1
           
           
           replace hb := hb.trans (hx.mono hb.size)
           
           clear hx
           generalize (w4.alloc (Obj.cells #[.int .i64 0, .pointer none] 80)).drew = w9 at hb hl  ⊢
           generalize hq : w4.heap.size = bl at hl ⊢
           have ql : w4.heap.size ≤ bl := Nat.le_of_eq hq
           clear hq
           have k0 := (hb.cell (p := ⟨kb, 0, none⟩) hkl).trans k0w
           have k1 := (hb.cell (p := ⟨kb, 1, none⟩) hkl).trans k1w
           have l0 := hl.c0
           have l1 := hl.c1
           have lf := hl.f
           refine tr hK (fun hHeld => ?_)
           clear hK K)
          refine wpAnyH_ready (rs := [3, 8]) (by kernel_rfl) (by simp) ?_
          refine AllReadyH.cons rfl (fun K hK => ?_) (AllReadyH.cons rfl (fun K hK => ?_) AllReadyH.nil)
          · (go_simp
             (go_at_call 63; refine (handle_any cb A _).mono ?_; rintro e w3 ⟨rfl, hx⟩)
             clear k0 k1 l0 l1 lf
             replace hb := hb.trans (hx.mono hb.size)
             replace hl := hl.on hx
             clear hx
             have k0 := (hb.cell (p := ⟨kb, 0, none⟩) hkl).trans k0w
             have k1 := (hb.cell (p := ⟨kb, 1, none⟩) hkl).trans k1w
             have l0 := hl.c0
             have l1 := hl.c1
             have lf := hl.f
             (try go_wp2_with fail)
             refine tr hK (fun hHeld => ?_)
             clear hK K)
            refine wpAnyH_ready (rs := [7, 8]) (by kernel_rfl) (by simp) ?_
            refine AllReadyH.cons rfl (fun K hK => ?_) (AllReadyH.cons rfl (fun K hK => ?_) AllReadyH.nil)
            · (go_simp
               (go_at_call 63; refine (handle_any cb B _).mono ?_; rintro e w7 ⟨rfl, hx⟩)
               clear k0 k1 l0 l1 lf
               replace hb := hb.trans (hx.mono hb.size)
               replace hl := hl.on hx
               clear hx
               have k0 := (hb.cell (p := ⟨kb, 0, none⟩) hkl).trans k0w
               have k1 := (hb.cell (p := ⟨kb, 1, none⟩) hkl).trans k1w
               have l0 := hl.c0
               have l1 := hl.c1
               have lf := hl.f
               (try go_wp2_with fail)
               refine tr hK (fun hHeld => ?_)
               clear hK K)
              refine tc 8 fun K hK => ?_
              (go_simp
               have hx : Below w7.heap.size w7 (w7.alloc (Obj.cells #[.int .i64 0, .pointer none] 80)) := ((Below.refl _ _).alloc (Nat.le_refl _) _)
               have hm : Hb (w7.alloc (Obj.cells #[.int .i64 0, .pointer none] 80)) w7.heap.size 0 (.pointer none) := (Hb.new w7 0 (.pointer none))
               clear k0 k1 l0 l1 lf
               have qm : w4.heap.size ≤ w7.heap.size := hb.size
               have hn : bl ≠ w7.heap.size := Nat.ne_of_lt hl.lt
               replace hb := hb.trans (hx.mono hb.size)
               replace hl := hl.on hx
               clear hx
               generalize w7.alloc (Obj.cells #[.int .i64 0, .pointer none] 80) = w8 at hb hm hl ⊢
               generalize w7.heap.size = bm at hm qm hn ⊢
               have k0 := (hb.cell (p := ⟨kb, 0, none⟩) hkl).trans k0w
               have k1 := (hb.cell (p := ⟨kb, 1, none⟩) hkl).trans k1w
               have m0 := hm.c0
               have m1 := hm.c1
               have mf := hm.f
               have l0 := hl.c0
               have l1 := hl.c1
               have lf := hl.f
               refine tr hK (fun hHeld => ?_)
               clear hK K)
              refine tc 10 fun K hK => ?_
              (go_simp
               clear k0 k1 m0 m1 mf l0 l1 lf
               replace hb := (hb.setCell (p := ⟨bm, 0, none⟩) qm (.int .i64 (A : Int))).setCell (p := ⟨bm, 1, none⟩) qm (.pointer (some ⟨cb, 0, none⟩))
               replace hl := (hl.far (b' := bm) (o := 0) (by omega) (.int .i64 (A : Int))).far (b' := bm) (o := 1) (by omega) (.pointer (some ⟨cb, 0, none⟩))
               replace hm := hm.put (A : Int) (.pointer (some ⟨cb, 0, none⟩))
               generalize (w8.setCell ⟨bm, 0, none⟩ (.int .i64 (A : Int))).setCell ⟨bm, 1, none⟩ (.pointer (some ⟨cb, 0, none⟩)) = w10 at hb hm hl ⊢
               have k0 := (hb.cell (p := ⟨kb, 0, none⟩) hkl).trans k0w
               have k1 := (hb.cell (p := ⟨kb, 1, none⟩) hkl).trans k1w
               have m0 := hm.c0
               have m1 := hm.c1
               have mf := hm.f
               have l0 := hl.c0
               have l1 := hl.c1
               have lf := hl.f
               refine tr hK (fun hHeld => ?_)
               clear hK K)
              refine tc 11 fun K hK => ?_
              (go_simp
               clear k0 k1 m0 m1 mf l0 l1 lf
               replace hb := (hb.setCell (p := ⟨bl, 0, none⟩) ql (.int .i64 (B : Int))).setCell (p := ⟨bl, 1, none⟩) ql (.pointer (some ⟨cb, 0, none⟩))
               replace hm := (hm.far (b' := bl) (o := 0) (by omega) (.int .i64 (B : Int))).far (b' := bl) (o := 1) (by omega) (.pointer (some ⟨cb, 0, none⟩))
               replace hl := hl.put (B : Int) (.pointer (some ⟨cb, 0, none⟩))
               generalize (w10.setCell ⟨bl, 0, none⟩ (.int .i64 (B : Int))).setCell ⟨bl, 1, none⟩ (.pointer (some ⟨cb, 0, none⟩)) = w11 at hb hm hl ⊢
               have k0 := (hb.cell (p := ⟨kb, 0, none⟩) hkl).trans k0w
               have k1 := (hb.cell (p := ⟨kb, 1, none⟩) hkl).trans k1w
               have m0 := hm.c0
               have m1 := hm.c1
               have mf := hm.f
               have l0 := hl.c0
               have l1 := hl.c1
               have lf := hl.f
               refine tr hK (fun hHeld => ?_)
               clear hK K)
              refine wpAnyH_done (by kernel_rfl) ?_ _
              go_wp2_with fail
              go_meet
              exact ⟨bm, bl, rfl, rfl, qm, ql, hm, hl, hb⟩
            · (go_simp
               have hx : Below w3.heap.size w3 (w3.alloc (Obj.cells #[.int .i64 0, .pointer none] 80)) := ((Below.refl _ _).alloc (Nat.le_refl _) _)
               have hm : Hb (w3.alloc (Obj.cells #[.int .i64 0, .pointer none] 80)) w3.heap.size 0 (.pointer none) := (Hb.new w3 0 (.pointer none))
               clear k0 k1 l0 l1 lf
               have qm : w4.heap.size ≤ w3.heap.size := hb.size
               have hn : bl ≠ w3.heap.size := Nat.ne_of_lt hl.lt
               replace hb := hb.trans (hx.mono hb.size)
               replace hl := hl.on hx
               clear hx
               generalize w3.alloc (Obj.cells #[.int .i64 0, .pointer none] 80) = w8 at hb hm hl ⊢
               generalize w3.heap.size = bm at hm qm hn ⊢
               have k0 := (hb.cell (p := ⟨kb, 0, none⟩) hkl).trans k0w
               have k1 := (hb.cell (p := ⟨kb, 1, none⟩) hkl).trans k1w
               have m0 := hm.c0
               have m1 := hm.c1
               have mf := hm.f
               have l0 := hl.c0
               have l1 := hl.c1
               have lf := hl.f
               refine tr hK (fun hHeld => ?_)
               clear hK K)
              refine tc 7 fun K hK => ?_
              (go_simp
               (go_at_call 63; refine (handle_any cb B _).mono ?_; rintro e w7 ⟨rfl, hx⟩)
               clear k0 k1 m0 m1 mf l0 l1 lf
               replace hb := hb.trans (hx.mono hb.size)
               replace hm := hm.on hx
               replace hl := hl.on hx
               clear hx
               have k0 := (hb.cell (p := ⟨kb, 0, none⟩) hkl).trans k0w
               have k1 := (hb.cell (p := ⟨kb, 1, none⟩) hkl).trans k1w
               have m0 := hm.c0
               have m1 := hm.c1
               have mf := hm.f
               have l0 := hl.c0
               have l1 := hl.c1
               have lf := hl.f
               (try go_wp2_with fail)
               refine tr hK (fun hHeld => ?_)
               clear hK K)
              refine tc 10 fun K hK => ?_
              (go_simp
               clear k0 k1 m0 m1 mf l0 l1 lf
               replace hb := (hb.setCell (p := ⟨bm, 0, none⟩) qm (.int .i64 (A : Int))).setCell (p := ⟨bm, 1, none⟩) qm (.pointer (some ⟨cb, 0, none⟩))
               replace hl := (hl.far (b' := bm) (o := 0) (by omega) (.int .i64 (A : Int))).far (b' := bm) (o := 1) (by omega) (.pointer (some ⟨cb, 0, none⟩))
               replace hm := hm.put (A : Int) (.pointer (some ⟨cb, 0, none⟩))
               generalize (w7.setCell ⟨bm, 0, none⟩ (.int .i64 (A : Int))).setCell ⟨bm, 1, none⟩ (.pointer (some ⟨cb, 0, none⟩)) = w10 at hb hm hl ⊢
               have k0 := (hb.cell (p := ⟨kb, 0, none⟩) hkl).trans k0w
               have k1 := (hb.cell (p := ⟨kb, 1, none⟩) hkl).trans k1w
               have m0 := hm.c0
               have m1 := hm.c1
               have mf := hm.f
               have l0 := hl.c0
               have l1 := hl.c1
               have lf := hl.f
               refine tr hK (fun hHeld => ?_)
               clear hK K)
              refine tc 11 fun K hK => ?_
              (go_simp
               clear k0 k1 m0 m1 mf l0 l1 lf
               replace hb := (hb.setCell (p := ⟨bl, 0, none⟩) ql (.int .i64 (B : Int))).setCell (p := ⟨bl, 1, none⟩) ql (.pointer (some ⟨cb, 0, none⟩))
               replace hm := (hm.far (b' := bl) (o := 0) (by omega) (.int .i64 (B : Int))).far (b' := bl) (o := 1) (by omega) (.pointer (some ⟨cb, 0, none⟩))
               replace hl := hl.put (B : Int) (.pointer (some ⟨cb, 0, none⟩))
               generalize (w10.setCell ⟨bl, 0, none⟩ (.int .i64 (B : Int))).setCell ⟨bl, 1, none⟩ (.pointer (some ⟨cb, 0, none⟩)) = w11 at hb hm hl ⊢
               have k0 := (hb.cell (p := ⟨kb, 0, none⟩) hkl).trans k0w
               have k1 := (hb.cell (p := ⟨kb, 1, none⟩) hkl).trans k1w
               have m0 := hm.c0
               have m1 := hm.c1
               have mf := hm.f
               have l0 := hl.c0
               have l1 := hl.c1
               have lf := hl.f
               refine tr hK (fun hHeld => ?_)
               clear hK K)
              refine wpAnyH_done (by kernel_rfl) ?_ _
              go_wp2_with fail
              go_meet
              exact ⟨bm, bl, rfl, rfl, qm, ql, hm, hl, hb⟩
          · (go_simp
             have hx : Below w9.heap.size w9 (w9.alloc (Obj.cells #[.int .i64 0, .pointer none] 80)) := ((Below.refl _ _).alloc (Nat.le_refl _) _)
             have hm : Hb (w9.alloc (Obj.cells #[.int .i64 0, .pointer none] 80)) w9.heap.size 0 (.pointer none) := (Hb.new w9 0 (.pointer none))
             clear k0 k1 l0 l1 lf
             have qm : w4.heap.size ≤ w9.heap.size := hb.size
             have hn : bl ≠ w9.heap.size := Nat.ne_of_lt hl.lt
             replace hb := hb.trans (hx.mono hb.size)
             replace hl := hl.on hx
             clear hx
             generalize w9.alloc (Obj.cells #[.int .i64 0, .pointer none] 80) = w8 at hb hm hl ⊢
             generalize w9.heap.size = bm at hm qm hn ⊢
             have k0 := (hb.cell (p := ⟨kb, 0, none⟩) hkl).trans k0w
             have k1 := (hb.cell (p := ⟨kb, 1, none⟩) hkl).trans k1w
             have m0 := hm.c0
             have m1 := hm.c1
             have mf := hm.f
             have l0 := hl.c0
             have l1 := hl.c1
             have lf := hl.f
             refine tr hK (fun hHeld => ?_)
             clear hK K)
            refine tc 3 fun K hK => ?_
            (go_simp
             (go_at_call 63; refine (handle_any cb A _).mono ?_; rintro e w3 ⟨rfl, hx⟩)
             clear k0 k1 m0 m1 mf l0 l1 lf
             replace hb := hb.trans (hx.mono hb.size)
             replace hm := hm.on hx
             replace hl := hl.on hx
             clear hx
             have k0 := (hb.cell (p := ⟨kb, 0, none⟩) hkl).trans k0w
             have k1 := (hb.cell (p := ⟨kb, 1, none⟩) hkl).trans k1w
             have m0 := hm.c0
             have m1 := hm.c1
             have mf := hm.f
             have l0 := hl.c0
             have l1 := hl.c1
             have lf := hl.f
             (try go_wp2_with fail)
             refine tr hK (fun hHeld => ?_)
             clear hK K)
            refine tc 7 fun K hK => ?_
            (go_simp
             (go_at_call 63; refine (handle_any cb B _).mono ?_; rintro e w7 ⟨rfl, hx⟩)
             clear k0 k1 m0 m1 mf l0 l1 lf
             replace hb := hb.trans (hx.mono hb.size)
             replace hm := hm.on hx
             replace hl := hl.on hx
             clear hx
             have k0 := (hb.cell (p := ⟨kb, 0, none⟩) hkl).trans k0w
             have k1 := (hb.cell (p := ⟨kb, 1, none⟩) hkl).trans k1w
             have m0 := hm.c0
             have m1 := hm.c1
             have mf := hm.f
             have l0 := hl.c0
             have l1 := hl.c1
             have lf := hl.f
             (try go_wp2_with fail)
             refine tr hK (fun hHeld => ?_)
             clear hK K)
            refine tc 10 fun K hK => ?_
            (go_simp
             clear k0 k1 m0 m1 mf l0 l1 lf
             replace hb := (hb.setCell (p := ⟨bm, 0, none⟩) qm (.int .i64 (A : Int))).setCell (p := ⟨bm, 1, none⟩) qm (.pointer (some ⟨cb, 0, none⟩))
             replace hl := (hl.far (b' := bm) (o := 0) (by omega) (.int .i64 (A : Int))).far (b' := bm) (o := 1) (by omega) (.pointer (some ⟨cb, 0, none⟩))
             replace hm := hm.put (A : Int) (.pointer (some ⟨cb, 0, none⟩))
             generalize (w7.setCell ⟨bm, 0, none⟩ (.int .i64 (A : Int))).setCell ⟨bm, 1, none⟩ (.pointer (some ⟨cb, 0, none⟩)) = w10 at hb hm hl ⊢
             have k0 := (hb.cell (p := ⟨kb, 0, none⟩) hkl).trans k0w
             have k1 := (hb.cell (p := ⟨kb, 1, none⟩) hkl).trans k1w
             have m0 := hm.c0
             have m1 := hm.c1
             have mf := hm.f
             have l0 := hl.c0
             have l1 := hl.c1
             have lf := hl.f
             refine tr hK (fun hHeld => ?_)
             clear hK K)
            refine tc 11 fun K hK => ?_
            (go_simp
             clear k0 k1 m0 m1 mf l0 l1 lf
             replace hb := (hb.setCell (p := ⟨bl, 0, none⟩) ql (.int .i64 (B : Int))).setCell (p := ⟨bl, 1, none⟩) ql (.pointer (some ⟨cb, 0, none⟩))
             replace hm := (hm.far (b' := bl) (o := 0) (by omega) (.int .i64 (B : Int))).far (b' := bl) (o := 1) (by omega) (.pointer (some ⟨cb, 0, none⟩))
             replace hl := hl.put (B : Int) (.pointer (some ⟨cb, 0, none⟩))
             generalize (w10.setCell ⟨bl, 0, none⟩ (.int .i64 (B : Int))).setCell ⟨bl, 1, none⟩ (.pointer (some ⟨cb, 0, none⟩)) = w11 at hb hm hl ⊢
             have k0 := (hb.cell (p := ⟨kb, 0, none⟩) hkl).trans k0w
             have k1 := (hb.cell (p := ⟨kb, 1, none⟩) hkl).trans k1w
             have m0 := hm.c0
             have m1 := hm.c1
             have mf := hm.f
             have l0 := hl.c0
             have l1 := hl.c1
             have lf := hl.f
             refine tr hK (fun hHeld => ?_)
             clear hK K)
            refine wpAnyH_done (by kernel_rfl) ?_ _
            go_wp2_with fail
            go_meet
            exact ⟨bm, bl, rfl, rfl, qm, ql, hm, hl, hb⟩
      case rest =>
      clear k0 k1 k0w k1w hkl hb
      obtain ⟨bm, bl, rfl, rfl, qm, ql, hm, hl, hb⟩ := hcut
      have hCz := hC4.below hb
      have hUz := hU4.on hb
      have hFz := hF4.trans (Fr.of_below hb)
      clear hC4 hU4 hF4 hb qm ql
      have m0 := hm.c0
      have m1 := hm.c1
      have mf := hm.f
      have l0 := hl.c0
      have l1 := hl.c1
      have lf := hl.f
      obtain ⟨fa, hfa⟩ : ∃ b, decide (colOf U 8 A = 0) = b := ⟨_, rfl⟩
      obtain ⟨fb, hfb⟩ : ∃ b, decide (colOf U 8 B = 0) = b := ⟨_, rfl⟩
      have hfa' : Shut (decide (U (A * 12 + 8) = 0) = fa) := hfa
      have hfb' : Shut (decide (U (B * 12 + 8) = 0) = fb) := hfb
      cases fa with
      | true =>
        have HN : Shut (edg U C k = none) := by
          have e := of_decide_eq_true hfa'.out
          rw [HL.out, if_neg (fun q => q.1 e)]
          rfl
        go_wp2_with (go_at_call 48; refine (kFixed_q (Cs.hat hCz hAn (by omega)) hfa).mono ?_; rintro e w11 ⟨rfl, hx1⟩; have hx1' : Below wc.heap.size wc w11 := hx1; have n0 := (hm.on hx1').c0; have n1 := (hm.on hx1').c1; have nf := (hm.on hx1').f; have j0 := (hl.on hx1').c0; have j1 := (hl.on hx1').c1; have jf := (hl.on hx1').f)
        go_roundw
        case rel => exact ⟨k + 1, G, by omega, by go_num, hUz.on hx1', fun j => by rw [hG.out j, lab, HN.out]; rfl, hFz.trans (Fr.of_below hx1')⟩
        case measure => simp [intOf]; omega
      | false =>
        cases fb with
        | true =>
          have HN : Shut (edg U C k = none) := by
            have e := of_decide_eq_true hfb'.out
            rw [HL.out, if_neg (fun q => q.2 e)]
            rfl
          go_wp2_with (first | (have _ := hx1'; go_at_call 48; refine (kFixed_q (Cs.hat (hCz.below hx1') hBn (by omega)) hfb).mono ?_; rintro e w12 ⟨rfl, hx2⟩; have hx2' : Below wc.heap.size wc w12 := hx1'.trans (hx2.mono hx1'.size); have o0 := (hm.on hx2').c0; have o1 := (hm.on hx2').c1; have of := (hm.on hx2').f; have p0 := (hl.on hx2').c0; have p1 := (hl.on hx2').c1; have pf := (hl.on hx2').f) | (go_at_call 48; refine (kFixed_q (Cs.hat hCz hAn (by omega)) hfa).mono ?_; rintro e w11 ⟨rfl, hx1⟩; have hx1' : Below wc.heap.size wc w11 := hx1; have n0 := (hm.on hx1').c0; have n1 := (hm.on hx1').c1; have nf := (hm.on hx1').f; have j0 := (hl.on hx1').c0; have j1 := (hl.on hx1').c1; have jf := (hl.on hx1').f))
          go_roundw
          case rel => exact ⟨k + 1, G, by omega, by go_num, hUz.on hx2', fun j => by rw [hG.out j, lab, HN.out]; rfl, hFz.trans (Fr.of_below hx2')⟩
          case measure => simp [intOf]; omega
        | false =>
          have HN : Shut (edg U C k = some (A, B)) := by
            have e := of_decide_eq_false hfa'.out
            have e' := of_decide_eq_false hfb'.out
            rw [HL.out, if_pos ⟨e, e'⟩]
            rfl
          go_wp2_with (first | (go_at_call 77; refine (join_q ub g n n A B G _ (hUz.on hx2') hAn hBn).mono ?_; rintro e w13 ⟨rfl, ⟨G2, hU2, hG2⟩, hF2⟩) | (have _ := hx1'; go_at_call 48; refine (kFixed_q (Cs.hat (hCz.below hx1') hBn (by omega)) hfb).mono ?_; rintro e w12 ⟨rfl, hx2⟩; have hx2' : Below wc.heap.size wc w12 := hx1'.trans (hx2.mono hx1'.size); have o0 := (hm.on hx2').c0; have o1 := (hm.on hx2').c1; have of := (hm.on hx2').f; have p0 := (hl.on hx2').c0; have p1 := (hl.on hx2').c1; have pf := (hl.on hx2').f) | (go_at_call 48; refine (kFixed_q (Cs.hat hCz hAn (by omega)) hfa).mono ?_; rintro e w11 ⟨rfl, hx1⟩; have hx1' : Below wc.heap.size wc w11 := hx1; have n0 := (hm.on hx1').c0; have n1 := (hm.on hx1').c1; have nf := (hm.on hx1').f; have j0 := (hl.on hx1').c0; have j1 := (hl.on hx1').c1; have jf := (hl.on hx1').f))
          go_roundw
          case rel => exact ⟨k + 1, G2, by omega, by go_num, hU2, fun j => by rw [hG2 j, hG.out j, hG.out A, hG.out B, lab, HN.out]; rfl, (hFz.trans (Fr.of_below hx2')).trans hF2⟩
          case measure => simp [intOf]; omega
    · obtain rfl : k = m2 := by omega
      go_wp2_with fail
      go_ret
      exact ⟨_, _, G, rfl, ⟨hg1, hg2⟩, hU, hG.out, hBr⟩
end Go.Proofs.YtlbpmmjckoaleaaGreat
