/- Texts of a proof. -/
import Derived.Test.YtmnhankcbkfhaaaGreatDoorB25
import Derived.Test.YtmnhankcbkfhaaaGreatDoorB23
import Derived.Test.YtmnhankcbkfhaaaGreatDoorB3
import Derived.Test.YtmnhankcbkfhaaaGreatDoorB17
import Derived.Test.YtmnhankcbkfhaaaGreatDoorB1
import Derived.Test.YtmnhankcbkfhaaaGreatDoorB2
import Derived.Deep.RegionHeld3
import Derived.Deep.DeepCutAuto
set_option maxHeartbeats 16000000
set_option maxRecDepth 20000
namespace Go.Proofs.YtmnhankcbkfhaaaGreatDoor
open Go.RowKit
set_option linter.unusedVariables false
set_option linter.unusedSimpArgs false
theorem sqn (a : Int) : 0 ≤ a * a := by
 rcases Int.le_total 0 a with h | h
 · exact Int.mul_nonneg h h
 · have := Int.mul_nonneg (show 0 ≤ -a by omega) (show 0 ≤ -a by omega); rwa [Int.neg_mul_neg] at this
theorem abs_le_of_sq {a b : Int} (hb : 0 ≤ b) (h : a * a < (b + 1) * (b + 1)) : -b ≤ a ∧ a ≤ b := by
 have k : ∀ x : Int, x * x < (b + 1) * (b + 1) → x ≤ b := fun x hx => by
  by_cases l : b < x
  · have := Int.mul_le_mul (show b + 1 ≤ x by omega) (show b + 1 ≤ x by omega) (by omega) (by omega)
    omega
  · omega
 have k1 := k a h
 have k2 := k (-a) (by rw [Int.neg_mul_neg]; exact h)
 omega
theorem vl_ge {x y : Int} (hx : -10000000 ≤ x ∧ x ≤ 10000000) (hy : -10000000 ≤ y ∧ y ≤ 10000000) : 0 ≤ vl x y ∧ (-vl x y ≤ x ∧ x ≤ vl x y) ∧ (-vl x y ≤ y ∧ y ≤ vl x y) := by
 have h0 : 0 ≤ x * x + y * y := by have := sqn x; have := sqn y; omega
 have b1 := mul_bd (a := x) (b := x) (A := 10000000) (B := 10000000) (by omega) (by omega)
 have b2 := mul_bd (a := y) (b := y) (A := 10000000) (B := 10000000) (by omega) (by omega)
 obtain ⟨a, b, c⟩ := rootZ_is h0
 have hle := rootZ_le (n := x * x + y * y) (B := 99999999) (by omega) (by omega)
 have e : vl x y = rootZ (x * x + y * y) := by unfold vl clampZ; repeat' split <;> omega
 rw [e]
 have := sqn x
 have := sqn y
 exact ⟨a, abs_le_of_sq a (by omega), abs_le_of_sq a (by omega)⟩
theorem unit_bd {x y : Int} (hx : -10000000 ≤ x ∧ x ≤ 10000000) (hy : -10000000 ≤ y ∧ y ≤ 10000000) : (-256 ≤ ux x y ∧ ux x y ≤ 256) ∧ (-256 ≤ uy x y ∧ uy x y ≤ 256) := by
 obtain ⟨h0, hX, hY⟩ := vl_ge hx hy
 unfold ux uy
 by_cases z : vl x y = 0
 · rw [if_pos z, if_pos z]; omega
 · rw [if_neg z, if_neg z]
   exact ⟨tdiv_le (by omega) (by omega) (by omega), tdiv_le (by omega) (by omega) (by omega)⟩
def HitOk (X Y D : Int) : Prop := (-256 ≤ X ∧ X ≤ 256) ∧ (-256 ≤ Y ∧ Y ≤ 256) ∧ (0 ≤ D ∧ D ≤ 102400)
theorem rd_ok {dx dy g X Y D : Int} (hx : -10000000 ≤ dx ∧ dx ≤ 10000000) (hy : -10000000 ≤ dy ∧ dy ≤ 10000000) (hg : 0 ≤ g ∧ g ≤ 51200) (e : rdT dx dy g = ((X, Y, D), true)) : HitOk X Y D ∧ D ≤ g := by
 unfold rdT at e
 split at e
 · rename_i h
   simp only [Prod.mk.injEq, and_true] at e
   obtain ⟨rfl, rfl, rfl⟩ := e
   obtain ⟨u1, u2⟩ := unit_bd hx hy
   obtain ⟨v0, _, _⟩ := vl_ge hx hy
   have b1 := mul_bd (a := dx) (b := dx) (A := 10000000) (B := 10000000) (by omega) (by omega)
   have b2 := mul_bd (a := dy) (b := dy) (A := 10000000) (B := 10000000) (by omega) (by omega)
   have h0 : 0 ≤ dx * dx + dy * dy := by have := sqn dx; have := sqn dy; omega
   obtain ⟨a, b, c⟩ := rootZ_is h0
   have hle := rootZ_le (n := dx * dx + dy * dy) (B := 99999999) (by omega) (by omega)
   have e : vl dx dy = rootZ (dx * dx + dy * dy) := by unfold vl clampZ; repeat' split <;> omega
   have hv : vl dx dy ≤ g := by
    rw [e]
    have hs : rootZ (dx * dx + dy * dy) * rootZ (dx * dx + dy * dy) < (g + 1) * (g + 1) := by
     have : (g + 1) * (g + 1) = g * g + (2 * g + 1) := by simp only [Int.add_mul, Int.mul_add, Int.one_mul, Int.mul_one]; omega
     omega
    exact (abs_le_of_sq hg.1 hs).2
   exact ⟨⟨u1, u2, by omega, by omega⟩, by omega⟩
 · simp at e
theorem bs_ok {s0 s1 s2 s3 : Int} (h0 : 0 ≤ s0) (h1 : 0 ≤ s1) (h2 : 0 ≤ s2) (h3 : 0 ≤ s3) (hs : s0 + s1 ≤ 102400) :
 (-256 ≤ (bsT s0 s1 s2 s3).1 ∧ (bsT s0 s1 s2 s3).1 ≤ 256) ∧ (-256 ≤ (bsT s0 s1 s2 s3).2.1 ∧ (bsT s0 s1 s2 s3).2.1 ≤ 256) ∧ (0 ≤ (bsT s0 s1 s2 s3).2.2 ∧ 2 * (bsT s0 s1 s2 s3).2.2 ≤ s0 + s1) := by
 unfold bsT
 by_cases a : s1 < s0 <;> simp only [a, if_true, if_false]
 · by_cases b : s2 < s1 <;> simp only [b, if_true, if_false]
   · by_cases c : s3 < s2 <;> simp only [c, if_true, if_false] <;> omega
   · by_cases c : s3 < s1 <;> simp only [c, if_true, if_false] <;> omega
 · by_cases b : s2 < s0 <;> simp only [b, if_true, if_false]
   · by_cases c : s3 < s2 <;> simp only [c, if_true, if_false] <;> omega
   · by_cases c : s3 < s0 <;> simp only [c, if_true, if_false] <;> omega
theorem mx_ok {a b c d x y g X Y D : Int} (ha : -2600000 ≤ a ∧ a ≤ c ∧ c ≤ 2600000 ∧ c - a ≤ 51200) (hb : -2600000 ≤ b ∧ b ≤ d ∧ d ≤ 2600000) (hx : -2560000 ≤ x ∧ x ≤ 2560000) (hy : -2560000 ≤ y ∧ y ≤ 2560000) (hg : 0 ≤ g ∧ g ≤ 25600) (e : mxT a b c d x y g = ((X, Y, D), true)) : HitOk X Y D := by
 unfold mxT at e
 split at e
 · rename_i h
   unfold ptB at h
   simp only [decide_eq_true_eq] at h
   have f := bs_ok (s0 := c - x) (s1 := x - a) (s2 := d - y) (s3 := y - b) (by omega) (by omega) (by omega) (by omega) (by omega)
   simp only [Prod.mk.injEq, and_true] at e
   obtain ⟨rfl, rfl, rfl⟩ := e
   exact ⟨f.1, f.2.1, by omega, by omega⟩
 · have n1 : mn (mx x a) c ≤ c ∧ a ≤ mn (mx x a) c := by unfold mn mx; repeat' split <;> omega
   have n2 : mn (mx y b) d ≤ d ∧ b ≤ mn (mx y b) d := by unfold mn mx; repeat' split <;> omega
   exact (rd_ok (by omega) (by omega) (by omega) e).1
theorem tn_ok {m : (Int × Int × Int) × Bool} {X Y D : Int} (hm : ∀ x y d, m = ((x, y, d), true) → HitOk x y d) (e : tnT m = ((X, Y, D), true)) : HitOk X Y D := by
 obtain ⟨⟨x, y, d⟩, k⟩ := m
 unfold tnT at e
 dsimp only at e
 split at e
 · rename_i hk
   subst hk
   simp only [Prod.mk.injEq, and_true] at e
   obtain ⟨rfl, rfl, rfl⟩ := e
   obtain ⟨h1, h2, h3⟩ := hm x y d rfl
   exact ⟨by omega, by omega, h3⟩
 · simp at e
theorem bx_ok {a b c d r s t u X Y D : Int} (h1 : c - a ≤ 51200) (h2 : t - r ≤ 51200) (e : bxT a b c d r s t u = ((X, Y, D), true)) : HitOk X Y D := by
 unfold bxT at e
 split at e
 · rename_i h
   rw [Bool.and_eq_true] at h
   obtain ⟨l1, l2⟩ := h
   unfold leB at l1 l2
   simp only [decide_eq_true_eq] at l1 l2
   have f := bs_ok (s0 := c - r) (s1 := t - a) (s2 := d - s) (s3 := u - b) (by omega) (by omega) (by omega) (by omega) (by omega)
   simp only [Prod.mk.injEq, and_true] at e
   rw [e] at f
   exact ⟨f.1, f.2.1, by have := f.2.2; dsimp only at this; omega, by have := f.2.2; dsimp only at this; omega⟩
 · simp at e
theorem toT_ok {k g h x y m c d u v X Y D : Int} (e : toT k g h x y m c d u v = ((X, Y, D), true)) : HitOk X Y D := by
 unfold toT at e
 split at e
 · rename_i hz
   simp only [Bool.and_eq_true] at hz
   obtain ⟨s1, s2, p1, p2⟩ := hz
   obtain ⟨⟨x0, x1⟩, y0, y1⟩ := inB_of p1
   obtain ⟨⟨u0, u1⟩, v0, v1⟩ := inB_of p2
   rcases shB_kinds s1 with ⟨rfl, rfl, a0, a1⟩ | ⟨rfl, a0, a1, a2, a3⟩
   · rcases shB_kinds s2 with ⟨rfl, rfl, b0, b1⟩ | ⟨rfl, b0, b1, b2, b3⟩
     · have q1 : tcT 1 g 0 x y 1 c 0 u v = rdT (u - x) (v - y) (g + c) := by unfold tcT; simp
       rw [q1] at e
       exact (rd_ok (by omega) (by omega) (by omega) e).1
     · have q1 : tcT 1 g 0 x y 2 c d u v = tnT (mxT (u - c) (v - d) (u + c) (v + d) x y g) := by unfold tcT; simp
       rw [q1] at e
       exact tn_ok (fun x' y' d' e0 => mx_ok (by omega) (by omega) (by omega) (by omega) (by omega) e0) e
   · rcases shB_kinds s2 with ⟨rfl, rfl, b0, b1⟩ | ⟨rfl, b0, b1, b2, b3⟩
     · have q1 : tcT 2 g h x y 1 c 0 u v = mxT (x - g) (y - h) (x + g) (y + h) u v c := by unfold tcT; simp
       rw [q1] at e
       exact mx_ok (by omega) (by omega) (by omega) (by omega) (by omega) e
     · have q1 : tcT 2 g h x y 2 c d u v = bxT (x - g) (y - h) (x + g) (y + h) (u - c) (v - d) (u + c) (v + d) := by unfold tcT; simp
       rw [q1] at e
       exact bx_ok (by omega) (by omega) e
 · simp at e
def Fives (P : Int → Int → Int → Int → Int → Prop) (l : List Int) : Prop := ∃ m, l.length = m * 5 ∧ ∀ k, k < m → P (ofL l (k * 5)) (ofL l (k * 5 + 1)) (ofL l (k * 5 + 2)) (ofL l (k * 5 + 3)) (ofL l (k * 5 + 4))
theorem ofL_l {l r : List Int} {q : Nat} (h : q < l.length) : ofL (l ++ r) q = ofL l q := by
 unfold ofL; rw [List.getD_eq_getElem?_getD, List.getD_eq_getElem?_getD, List.getElem?_append_left h]
theorem ofL_r {l r : List Int} {q : Nat} (h : l.length ≤ q) : ofL (l ++ r) q = ofL r (q - l.length) := by
 unfold ofL; rw [List.getD_eq_getElem?_getD, List.getD_eq_getElem?_getD, List.getElem?_append_right h]
theorem Fives.nil (P : Int → Int → Int → Int → Int → Prop) : Fives P [] := ⟨0, rfl, fun k h => by omega⟩
theorem Fives.one {P : Int → Int → Int → Int → Int → Prop} {a b x y d : Int} (h : P a b x y d) : Fives P [a, b, x, y, d] := by
 refine ⟨1, rfl, fun k hk => ?_⟩
 obtain rfl : k = 0 := by omega
 exact h
theorem Fives.app {P : Int → Int → Int → Int → Int → Prop} {l r : List Int} (h1 : Fives P l) (h2 : Fives P r) : Fives P (l ++ r) := by
 obtain ⟨m, e1, p1⟩ := h1
 obtain ⟨m', e2, p2⟩ := h2
 refine ⟨m + m', by rw [List.length_append, e1, e2]; omega, fun k hk => ?_⟩
 by_cases c : k < m
 · rw [ofL_l (by omega), ofL_l (by omega), ofL_l (by omega), ofL_l (by omega), ofL_l (by omega)]
   exact p1 k c
 · rw [ofL_r (by omega), ofL_r (by omega), ofL_r (by omega), ofL_r (by omega), ofL_r (by omega), e1, show k * 5 - m * 5 = (k - m) * 5 by omega, show k * 5 + 1 - m * 5 = (k - m) * 5 + 1 by omega, show k * 5 + 2 - m * 5 = (k - m) * 5 + 2 by omega, show k * 5 + 3 - m * 5 = (k - m) * 5 + 3 by omega, show k * 5 + 4 - m * 5 = (k - m) * 5 + 4 by omega]
   exact p2 (k - m) (by omega)
def CtP (n : Nat) (a b x y d : Int) : Prop := 0 ≤ a ∧ a < b ∧ b < (n : Int) ∧ HitOk x y d
theorem conOne_ok (C : Nat → Nat → Int) {n i k : Nat} (hk : k < n) : Fives (CtP n) (conOne C i k) := by
 unfold conOne
 split
 · rename_i h
   unfold conB at h
   simp only [Bool.and_eq_true, decide_eq_true_eq] at h
   have e : toT (C 1 i) (C 2 i) (C 3 i) (C 4 i) (C 5 i) (C 1 k) (C 2 k) (C 3 k) (C 4 k) (C 5 k) = (((tcH C i k).1.1, (tcH C i k).1.2.1, (tcH C i k).1.2.2), true) := by
    show tcH C i k = _
    rw [← h.2.2]
   exact Fives.one ⟨by omega, by omega, by omega, toT_ok e⟩
 · exact Fives.nil _
theorem conIn_ok (C : Nat → Nat → Int) {n i : Nat} : ∀ k, k ≤ n → Fives (CtP n) (conIn C i k)
 | 0, _ => Fives.nil _
 | k + 1, h => (conIn_ok C k (by omega)).app (conOne_ok C (by omega))
theorem conOut_ok (C : Nat → Nat → Int) {n : Nat} : ∀ i, Fives (CtP n) (conOut C n i)
 | 0 => Fives.nil _
 | i + 1 => (conOut_ok C i).app (conIn_ok C n (Nat.le_refl _))
theorem Fives.ct {n m : Nat} {l : List Int} (h : Fives (CtP n) l) (e : l.length = m * 5) : CtOk n m (ofL l) := by
 obtain ⟨m', e', p⟩ := h
 obtain rfl : m' = m := by omega
 exact ⟨fun k hk => ⟨(p k hk).1, by have := (p k hk).2; omega⟩, fun k hk => ⟨by have := p k hk; unfold CtP at this; omega, (p k hk).2.2.1⟩, fun k hk => by have := (p k hk).2.1; omega, fun k hk => (p k hk).2.2.2.1, fun k hk => (p k hk).2.2.2.2.1, fun k hk => (p k hk).2.2.2.2.2⟩
theorem con_ct (C : Nat → Nat → Int) {n m : Nat} (e : (conL C n).length = m * 5) : CtOk n m (ofL (conL C n)) := (conOut_ok C n).ct e
abbrev zeroBd : Value := .agg #[.int .i64 0, .int .i64 0, .int .i64 0, .int .i64 0, .int .i64 0, .int .i64 0, .int .i64 0, .int .i64 0, .int .i64 0, .int .i64 0, .int .i64 0, .int .i64 0]
theorem makeBodies (n : Nat) (hn : n ≤ 1048576) (w : World) : (Instr.makeSlice 24 (.int .i64 (n : Int)) (.int .i64 (n : Int))).run Tryz.prog w = .ok (.slice (some ⟨w.heap.size, 0, none⟩) n n) (w.alloc (.cells (madeCells zeroBd.cells (n * 12)) 39)) :=
 make_rows _ _ zeroBd 12 96 Tryz.underlying24 (by kernel_rfl) _ _ n (by omega) (by omega) w
theorem toBodyS_any (a : Option Addr) (n c : Nat) (U : Nat → Int) (w : World) (h : Flat w a (n * 12) U) (hn : n ≤ 1048576) :
 Calls Tryz.prog 7 #[.slice a n c] w fun e w' => ∃ b, e = .returned (.slice (some ⟨b, 0, none⟩) n n) ∧ w.heap.size ≤ b ∧ Row w' b 39 (n * 12) U ∧ Below w.heap.size w w' := by
 have hmk := makeBodies n hn
 go_enter Tryz.func7, Tryz.ntmps7
 go_wp2
 clear hmk
 go_loopw [4] (fun i wr => ∃ k : Nat, k ≤ n ∧ i = .int .i64 (k : Int) ∧ Row wr w.heap.size 39 (n * 12) (upto (k * 12) U) ∧ Below w.heap.size w wr) (fun i _ => n - (intOf i).toNat)
 case atStart => exact ⟨0, Nat.zero_le _, rfl, (Row.madek w _ 12 _ _ rfl (by decide) U).cut (by omega), (Below.refl _ _).alloc (Nat.le_refl _) _⟩
 case round =>
  obtain ⟨k, hk, rfl, hr, hbel⟩ := hrel
  have hrl := hr.lt
  by_cases hlt : k < n
  · obtain ⟨b, o, rfl, hbl, hc⟩ := (h.below hbel) (by omega)
    have c0 := hc (k * 12) (by omega)
    have c1 := hc (k * 12 + 1) (by omega)
    have c2 := hc (k * 12 + 2) (by omega)
    have c3 := hc (k * 12 + 3) (by omega)
    have c4 := hc (k * 12 + 4) (by omega)
    have c5 := hc (k * 12 + 5) (by omega)
    have c6 := hc (k * 12 + 6) (by omega)
    have c7 := hc (k * 12 + 7) (by omega)
    have c8 := hc (k * 12 + 8) (by omega)
    have c9 := hc (k * 12 + 9) (by omega)
    have c10 := hc (k * 12 + 10) (by omega)
    have c11 := hc (k * 12 + 11) (by omega)
    simp only [← Nat.add_assoc] at c0 c1 c2 c3 c4 c5 c6 c7 c8 c9 c10 c11
    clear hc h
    go_wp2_with (go_at_call 17; refine (toBody_any (fun j => U (k * 12 + j)) _).mono ?_; rintro e w1 ⟨rfl, hb1⟩; have hr1 := hr.below hb1; have f1 := hr1.fro; (have e0 := hr1.cell (q := k * 12) (by omega)); (have e1 := hr1.cell (q := k * 12 + 1) (by omega)); (have e2 := hr1.cell (q := k * 12 + 2) (by omega)); (have e3 := hr1.cell (q := k * 12 + 3) (by omega)); (have e4 := hr1.cell (q := k * 12 + 4) (by omega)); (have e5 := hr1.cell (q := k * 12 + 5) (by omega)); (have e6 := hr1.cell (q := k * 12 + 6) (by omega)); (have e7 := hr1.cell (q := k * 12 + 7) (by omega)); (have e8 := hr1.cell (q := k * 12 + 8) (by omega)); (have e9 := hr1.cell (q := k * 12 + 9) (by omega)); (have e10 := hr1.cell (q := k * 12 + 10) (by omega)); (have e11 := hr1.cell (q := k * 12 + 11) (by omega)))
    go_roundw
    case rel => exact ⟨k + 1, by omega, by go_num, (((((((((((((hr1).next).next).next).next).next).next).next).next).next).next).next).next).cut (by omega), bel_a⟩
    case measure => simp [intOf]; omega
  · go_wp2
    go_ret
    exact ⟨_, rfl, Nat.le_refl _, hr.full (by omega), hbel⟩
theorem eqShapeL_same (a b c : Int) (w : World) :
 Calls Tryz.prog 36 #[s3 a b c, s3 a b c] w fun e w' => e = .returned (.bool true) ∧ Below w.heap.size w w' := by
 have hset := cset_map
 go_enter Tryz.func36, Tryz.ntmps36
 go_wp2
 go_ret
 exact ⟨rfl, bel_a⟩
theorem eqBody_same (V : Nat → Int) (w : World) :
 Calls Tryz.prog 18 #[bodyW V, bodyW V] w fun e w' => e = .returned (.bool true) ∧ Below w.heap.size w w' := by
 have hset := cset_map
 go_enter Tryz.func18, Tryz.ntmps18
 go_wp2_with (first
  | (go_at_call 36; refine (eqShapeL_same _ _ _ _).mono ?_; rintro e w1 ⟨rfl, hb1⟩; obtain ⟨hc1, hf1⟩ := bcell hb1; have hz1 := hb1.size; (try simp only [zz] at hc1 hf1 hz1); (try have hq1x0 : w.heap.size < w1.heap.size := (by omega)); (try have hq1x1 : w.heap.size + 1 < w1.heap.size := (by omega)); have hk1 := fun o => hc1 w.heap.size o (by omega); have hk2 := fun o => hc1 (w.heap.size + 1) o (by omega); clear hc1 hf1)
  | (have _ := hq2x0; (go_at_call 37; refine (eqVec_same _ _ _).mono ?_; rintro e w3 ⟨rfl, hb3⟩; obtain ⟨hc3, hf3⟩ := bcell hb3; have hz3 := hb3.size; (try simp only [zz] at hc3 hf3 hz3); have hk5 := fun o => hc3 w.heap.size o (by omega); have hk6 := fun o => hc3 (w.heap.size + 1) o (by omega); clear hc3 hf3))
  | (go_at_call 37; refine (eqVec_same _ _ _).mono ?_; rintro e w2 ⟨rfl, hb2⟩; obtain ⟨hc2, hf2⟩ := bcell hb2; have hz2 := hb2.size; (try simp only [zz] at hc2 hf2 hz2); have hq2x0 : w.heap.size < w2.heap.size := (by omega); have hq2x1 : w.heap.size + 1 < w2.heap.size := (by omega); have hk3 := fun o => hc2 w.heap.size o (by omega); have hk4 := fun o => hc2 (w.heap.size + 1) o (by omega); clear hc2 hf2))
 go_ret
 exact ⟨rfl, bel_a⟩
theorem eqBodyS_same (a a' : Option Addr) (n c c' : Nat) (U : Nat → Int) (w : World) (h : Flat w a (n * 12) U) (h' : Flat w a' (n * 12) U) (hn : n ≤ 1048576) :
 Calls Tryz.prog 9 #[.slice a n c, .slice a' n c'] w fun e w' => e = .returned (.bool true) ∧ Below w.heap.size w w' := by
 go_enter Tryz.func9, Tryz.ntmps9
 go_wp2
 go_loopw [5] (fun i wr => ∃ k : Nat, k ≤ n ∧ i = .int .i64 (k : Int) ∧ Below w.heap.size w wr) (fun i _ => n - (intOf i).toNat)
 case atStart => exact ⟨0, Nat.zero_le _, rfl, Below.refl _ _⟩
 case round =>
  obtain ⟨k, hk, rfl, hB⟩ := hrel
  by_cases hlt : k < n
  · have hkn : (k : Int) < (n : Int) := by omega
    obtain ⟨b, o, rfl, hbl, hc⟩ := (h.below hB) (by omega)
    obtain ⟨b', o', rfl, hbl', hc'⟩ := (h'.below hB) (by omega)
    have c0 := hc (k * 12 + 0) (by omega)
    have d0 := hc' (k * 12 + 0) (by omega)
    have c1 := hc (k * 12 + 1) (by omega)
    have d1 := hc' (k * 12 + 1) (by omega)
    have c2 := hc (k * 12 + 2) (by omega)
    have d2 := hc' (k * 12 + 2) (by omega)
    have c3 := hc (k * 12 + 3) (by omega)
    have d3 := hc' (k * 12 + 3) (by omega)
    have c4 := hc (k * 12 + 4) (by omega)
    have d4 := hc' (k * 12 + 4) (by omega)
    have c5 := hc (k * 12 + 5) (by omega)
    have d5 := hc' (k * 12 + 5) (by omega)
    have c6 := hc (k * 12 + 6) (by omega)
    have d6 := hc' (k * 12 + 6) (by omega)
    have c7 := hc (k * 12 + 7) (by omega)
    have d7 := hc' (k * 12 + 7) (by omega)
    have c8 := hc (k * 12 + 8) (by omega)
    have d8 := hc' (k * 12 + 8) (by omega)
    have c9 := hc (k * 12 + 9) (by omega)
    have d9 := hc' (k * 12 + 9) (by omega)
    have c10 := hc (k * 12 + 10) (by omega)
    have d10 := hc' (k * 12 + 10) (by omega)
    have c11 := hc (k * 12 + 11) (by omega)
    have d11 := hc' (k * 12 + 11) (by omega)
    simp only [← Nat.add_assoc, Nat.add_zero] at c0 d0 c1 d1 c2 d2 c3 d3 c4 d4 c5 d5 c6 d6 c7 d7 c8 d8 c9 d9 c10 d10 c11 d11
    clear hc hc' h h'
    go_upto_region 6 with fail
    refine wp_region_held_drew (S := fun w' => w'.cell? ⟨b, o + k * 12, none⟩ = some (.int .i64 (U (k * 12))) ∧ w'.cell? ⟨b, o + k * 12 + 1, none⟩ = some (.int .i64 (U (k * 12 + 1))) ∧ w'.cell? ⟨b, o + k * 12 + 2, none⟩ = some (.int .i64 (U (k * 12 + 2))) ∧ w'.cell? ⟨b, o + k * 12 + 3, none⟩ = some (.int .i64 (U (k * 12 + 3))) ∧ w'.cell? ⟨b, o + k * 12 + 4, none⟩ = some (.int .i64 (U (k * 12 + 4))) ∧ w'.cell? ⟨b, o + k * 12 + 5, none⟩ = some (.int .i64 (U (k * 12 + 5))) ∧ w'.cell? ⟨b, o + k * 12 + 6, none⟩ = some (.int .i64 (U (k * 12 + 6))) ∧ w'.cell? ⟨b, o + k * 12 + 7, none⟩ = some (.int .i64 (U (k * 12 + 7))) ∧ w'.cell? ⟨b, o + k * 12 + 8, none⟩ = some (.int .i64 (U (k * 12 + 8))) ∧ w'.cell? ⟨b, o + k * 12 + 9, none⟩ = some (.int .i64 (U (k * 12 + 9))) ∧ w'.cell? ⟨b, o + k * 12 + 10, none⟩ = some (.int .i64 (U (k * 12 + 10))) ∧ w'.cell? ⟨b, o + k * 12 + 11, none⟩ = some (.int .i64 (U (k * 12 + 11))) ∧ w'.cell? ⟨b', o' + k * 12, none⟩ = some (.int .i64 (U (k * 12))) ∧ w'.cell? ⟨b', o' + k * 12 + 1, none⟩ = some (.int .i64 (U (k * 12 + 1))) ∧ w'.cell? ⟨b', o' + k * 12 + 2, none⟩ = some (.int .i64 (U (k * 12 + 2))) ∧ w'.cell? ⟨b', o' + k * 12 + 3, none⟩ = some (.int .i64 (U (k * 12 + 3))) ∧ w'.cell? ⟨b', o' + k * 12 + 4, none⟩ = some (.int .i64 (U (k * 12 + 4))) ∧ w'.cell? ⟨b', o' + k * 12 + 5, none⟩ = some (.int .i64 (U (k * 12 + 5))) ∧ w'.cell? ⟨b', o' + k * 12 + 6, none⟩ = some (.int .i64 (U (k * 12 + 6))) ∧ w'.cell? ⟨b', o' + k * 12 + 7, none⟩ = some (.int .i64 (U (k * 12 + 7))) ∧ w'.cell? ⟨b', o' + k * 12 + 8, none⟩ = some (.int .i64 (U (k * 12 + 8))) ∧ w'.cell? ⟨b', o' + k * 12 + 9, none⟩ = some (.int .i64 (U (k * 12 + 9))) ∧ w'.cell? ⟨b', o' + k * 12 + 10, none⟩ = some (.int .i64 (U (k * 12 + 10))) ∧ w'.cell? ⟨b', o' + k * 12 + 11, none⟩ = some (.int .i64 (U (k * 12 + 11)))) (by kernel_rfl) ?_ (fun hHeld => ?_)
    · (try dsimp only)
      (first | (go_simp; done) | (go_keep; done))
    refine tq 0 hHeld ?_
    refine tq 1 hHeld ?_
    refine tq 2 hHeld ?_
    refine tq 3 hHeld ?_
    refine tq 4 hHeld ?_
    refine tq 5 hHeld ?_
    refine tq 6 hHeld ?_
    refine tq 7 hHeld ?_
    (refine tc 8 fun K hK => ?_; go_simp; (go_at_call 18; refine (eqBody_same (fun j => U (k * 12 + j)) _).mono ?_; rintro e w1 ⟨rfl, hb1⟩; obtain ⟨hc1, hf1⟩ := bcell hb1; have hz1 := hb1.size; (try simp only [zz] at hc1 hf1 hz1); have hk1 := fun o => hc1 b o (by omega); have hk2 := fun o => hc1 b' o (by omega); clear hc1 hf1); (try go_wp2_with fail); refine tr hK (fun hHeld => ?_); clear hK K)
    refine tq 9 hHeld ?_
    refine wpAnyH_done (by kernel_rfl) ?_ _
    go_wp2_with fail
    go_roundw
    case rel => exact ⟨k + 1, by omega, by go_num, hB.trans (hb1.ofDr.mono hB.size)⟩
    case measure => simp [intOf]; omega
  · go_wp2
    go_ret
    exact ⟨rfl, hB⟩
theorem szBodyS_any (a : Option Addr) (n c : Nat) (w : World) (hn : (n : Int) ≤ 9223372036854775807) :
 Calls Tryz.prog 5 #[.slice a n c, .int .i64 1048576] w fun e w' => e = .returned (.int .i64 (if n ≤ 1048576 then 1048576 - (n : Int) else -1)) ∧ w' = w := by
 by_cases h : n ≤ 1048576
 · have h1 : ¬ (1048576 - (n : Int) < 0) := by omega
   have h2 : IntKind.i64.wrap (1048576 - (n : Int)) = 1048576 - (n : Int) := i64w (by omega)
   go_enter Tryz.func5, Tryz.ntmps5
   go_wp2
   go_ret
   exact ⟨by first | rfl | (rw [if_pos h]; rfl) | simp [h], rfl⟩
 · have h1 : (1048576 - (n : Int) < 0) := by omega
   have h2 : IntKind.i64.wrap (1048576 - (n : Int)) = 1048576 - (n : Int) := i64w (by omega)
   go_enter Tryz.func5, Tryz.ntmps5
   go_wp2
   go_ret
   exact ⟨by first | rfl | (rw [if_neg h]; rfl) | simp [h], rfl⟩
end Go.Proofs.YtmnhankcbkfhaaaGreatDoor
