/- Texts of a proof. -/
import Derived.Test.YthijeiehcdoidaaGreatB14
import Derived.Test.YthijeiehcdoidaaGreatB19
import Derived.Test.YthijeiehcdoidaaGreatB16
import Derived.Test.YthijeiehcdoidaaGreatB12
import Derived.Deep.RegionHeld3
import Derived.Deep.DeepCutAuto
import Derived.Test.YthijeiehcdoidaaGreatB3
import Derived.Test.YthijeiehcdoidaaGreatB5
set_option maxHeartbeats 16000000
set_option maxRecDepth 20000
namespace Go.Proofs.YthijeiehcdoidaaGreat
open Go.RowKit
set_option linter.unusedVariables false
set_option linter.unusedSimpArgs false
theorem sqn (a : Int) : 0 ≤ a * a := by
 rcases Int.le_total 0 a with h | h
 · exact Int.mul_nonneg h h
 · have := Int.mul_nonneg (show 0 ≤ -a by omega) (show 0 ≤ -a by omega); rwa [Int.neg_mul_neg] at this
theorem abs_le_of_sq {a b : Int} (hb : 0 ≤ b) (h : a * a < (b + 1) * (b + 1)) : -b ≤ a ∧ a ≤ b := by
 have k : ∀ x : Int, x * x < (b + 1) * (b + 1) → x ≤ b := fun x hx => by
  by_cases l : b < x
  · have := Int.mul_le_mul (show b + 1 ≤ x by omega) (show b + 1 ≤ x by omega) (by omega) (by omega)
    omega
  · omega
 have k1 := k a h
 have k2 := k (-a) (by rw [Int.neg_mul_neg]; exact h)
 omega
theorem vl_ge {x y : Int} (hx : -10000000 ≤ x ∧ x ≤ 10000000) (hy : -10000000 ≤ y ∧ y ≤ 10000000) : 0 ≤ vl x y ∧ (-vl x y ≤ x ∧ x ≤ vl x y) ∧ (-vl x y ≤ y ∧ y ≤ vl x y) := by
 have h0 : 0 ≤ x * x + y * y := by have := sqn x; have := sqn y; omega
 have b1 := mul_bd (a := x) (b := x) (A := 10000000) (B := 10000000) (by omega) (by omega)
 have b2 := mul_bd (a := y) (b := y) (A := 10000000) (B := 10000000) (by omega) (by omega)
 obtain ⟨a, b, c⟩ := rootZ_is h0
 have hle := rootZ_le (n := x * x + y * y) (B := 99999999) (by omega) (by omega)
 have e : vl x y = rootZ (x * x + y * y) := by unfold vl clampZ; repeat' split <;> omega
 rw [e]
 have := sqn x
 have := sqn y
 exact ⟨a, abs_le_of_sq a (by omega), abs_le_of_sq a (by omega)⟩
theorem unit_bd {x y : Int} (hx : -10000000 ≤ x ∧ x ≤ 10000000) (hy : -10000000 ≤ y ∧ y ≤ 10000000) : (-256 ≤ ux x y ∧ ux x y ≤ 256) ∧ (-256 ≤ uy x y ∧ uy x y ≤ 256) := by
 obtain ⟨h0, hX, hY⟩ := vl_ge hx hy
 unfold ux uy
 by_cases z : vl x y = 0
 · rw [if_pos z, if_pos z]; omega
 · rw [if_neg z, if_neg z]
   exact ⟨tdiv_le (by omega) (by omega) (by omega), tdiv_le (by omega) (by omega) (by omega)⟩
def HitOk (X Y D : Int) : Prop := (-256 ≤ X ∧ X ≤ 256) ∧ (-256 ≤ Y ∧ Y ≤ 256) ∧ (0 ≤ D ∧ D ≤ 102400)
theorem rd_ok {dx dy g X Y D : Int} (hx : -10000000 ≤ dx ∧ dx ≤ 10000000) (hy : -10000000 ≤ dy ∧ dy ≤ 10000000) (hg : 0 ≤ g ∧ g ≤ 51200) (e : rdT dx dy g = ((X, Y, D), true)) : HitOk X Y D ∧ D ≤ g := by
 unfold rdT at e
 split at e
 · rename_i h
   simp only [Prod.mk.injEq, and_true] at e
   obtain ⟨rfl, rfl, rfl⟩ := e
   obtain ⟨u1, u2⟩ := unit_bd hx hy
   obtain ⟨v0, _, _⟩ := vl_ge hx hy
   have b1 := mul_bd (a := dx) (b := dx) (A := 10000000) (B := 10000000) (by omega) (by omega)
   have b2 := mul_bd (a := dy) (b := dy) (A := 10000000) (B := 10000000) (by omega) (by omega)
   have h0 : 0 ≤ dx * dx + dy * dy := by have := sqn dx; have := sqn dy; omega
   obtain ⟨a, b, c⟩ := rootZ_is h0
   have hle := rootZ_le (n := dx * dx + dy * dy) (B := 99999999) (by omega) (by omega)
   have e : vl dx dy = rootZ (dx * dx + dy * dy) := by unfold vl clampZ; repeat' split <;> omega
   have hv : vl dx dy ≤ g := by
    rw [e]
    have hs : rootZ (dx * dx + dy * dy) * rootZ (dx * dx + dy * dy) < (g + 1) * (g + 1) := by
     have : (g + 1) * (g + 1) = g * g + (2 * g + 1) := by simp only [Int.add_mul, Int.mul_add, Int.one_mul, Int.mul_one]; omega
     omega
    exact (abs_le_of_sq hg.1 hs).2
   exact ⟨⟨u1, u2, by omega, by omega⟩, by omega⟩
 · simp at e
theorem bs_ok {s0 s1 s2 s3 : Int} (h0 : 0 ≤ s0) (h1 : 0 ≤ s1) (h2 : 0 ≤ s2) (h3 : 0 ≤ s3) (hs : s0 + s1 ≤ 102400) :
 (-256 ≤ (bsT s0 s1 s2 s3).1 ∧ (bsT s0 s1 s2 s3).1 ≤ 256) ∧ (-256 ≤ (bsT s0 s1 s2 s3).2.1 ∧ (bsT s0 s1 s2 s3).2.1 ≤ 256) ∧ (0 ≤ (bsT s0 s1 s2 s3).2.2 ∧ 2 * (bsT s0 s1 s2 s3).2.2 ≤ s0 + s1) := by
 unfold bsT
 by_cases a : s1 < s0 <;> simp only [a, if_true, if_false]
 · by_cases b : s2 < s1 <;> simp only [b, if_true, if_false]
   · by_cases c : s3 < s2 <;> simp only [c, if_true, if_false] <;> omega
   · by_cases c : s3 < s1 <;> simp only [c, if_true, if_false] <;> omega
 · by_cases b : s2 < s0 <;> simp only [b, if_true, if_false]
   · by_cases c : s3 < s2 <;> simp only [c, if_true, if_false] <;> omega
   · by_cases c : s3 < s0 <;> simp only [c, if_true, if_false] <;> omega
theorem mx_ok {a b c d x y g X Y D : Int} (ha : -2600000 ≤ a ∧ a ≤ c ∧ c ≤ 2600000 ∧ c - a ≤ 51200) (hb : -2600000 ≤ b ∧ b ≤ d ∧ d ≤ 2600000) (hx : -2560000 ≤ x ∧ x ≤ 2560000) (hy : -2560000 ≤ y ∧ y ≤ 2560000) (hg : 0 ≤ g ∧ g ≤ 25600) (e : mxT a b c d x y g = ((X, Y, D), true)) : HitOk X Y D := by
 unfold mxT at e
 split at e
 · rename_i h
   unfold ptB at h
   simp only [decide_eq_true_eq] at h
   have f := bs_ok (s0 := c - x) (s1 := x - a) (s2 := d - y) (s3 := y - b) (by omega) (by omega) (by omega) (by omega) (by omega)
   simp only [Prod.mk.injEq, and_true] at e
   obtain ⟨rfl, rfl, rfl⟩ := e
   exact ⟨f.1, f.2.1, by omega, by omega⟩
 · have n1 : mn (mx x a) c ≤ c ∧ a ≤ mn (mx x a) c := by unfold mn mx; repeat' split <;> omega
   have n2 : mn (mx y b) d ≤ d ∧ b ≤ mn (mx y b) d := by unfold mn mx; repeat' split <;> omega
   exact (rd_ok (by omega) (by omega) (by omega) e).1
theorem tn_ok {m : (Int × Int × Int) × Bool} {X Y D : Int} (hm : ∀ x y d, m = ((x, y, d), true) → HitOk x y d) (e : tnT m = ((X, Y, D), true)) : HitOk X Y D := by
 obtain ⟨⟨x, y, d⟩, k⟩ := m
 unfold tnT at e
 dsimp only at e
 split at e
 · rename_i hk
   subst hk
   simp only [Prod.mk.injEq, and_true] at e
   obtain ⟨rfl, rfl, rfl⟩ := e
   obtain ⟨h1, h2, h3⟩ := hm x y d rfl
   exact ⟨by omega, by omega, h3⟩
 · simp at e
theorem bx_ok {a b c d r s t u X Y D : Int} (h1 : c - a ≤ 51200) (h2 : t - r ≤ 51200) (e : bxT a b c d r s t u = ((X, Y, D), true)) : HitOk X Y D := by
 unfold bxT at e
 split at e
 · rename_i h
   rw [Bool.and_eq_true] at h
   obtain ⟨l1, l2⟩ := h
   unfold leB at l1 l2
   simp only [decide_eq_true_eq] at l1 l2
   have f := bs_ok (s0 := c - r) (s1 := t - a) (s2 := d - s) (s3 := u - b) (by omega) (by omega) (by omega) (by omega) (by omega)
   simp only [Prod.mk.injEq, and_true] at e
   rw [e] at f
   exact ⟨f.1, f.2.1, by have := f.2.2; dsimp only at this; omega, by have := f.2.2; dsimp only at this; omega⟩
 · simp at e
theorem toT_ok {k g h x y m c d u v X Y D : Int} (e : toT k g h x y m c d u v = ((X, Y, D), true)) : HitOk X Y D := by
 unfold toT at e
 split at e
 · rename_i hz
   simp only [Bool.and_eq_true] at hz
   obtain ⟨s1, s2, p1, p2⟩ := hz
   obtain ⟨⟨x0, x1⟩, y0, y1⟩ := inB_of p1
   obtain ⟨⟨u0, u1⟩, v0, v1⟩ := inB_of p2
   rcases shB_kinds s1 with ⟨rfl, rfl, a0, a1⟩ | ⟨rfl, a0, a1, a2, a3⟩
   · rcases shB_kinds s2 with ⟨rfl, rfl, b0, b1⟩ | ⟨rfl, b0, b1, b2, b3⟩
     · have q1 : tcT 1 g 0 x y 1 c 0 u v = rdT (u - x) (v - y) (g + c) := by unfold tcT; simp
       rw [q1] at e
       exact (rd_ok (by omega) (by omega) (by omega) e).1
     · have q1 : tcT 1 g 0 x y 2 c d u v = tnT (mxT (u - c) (v - d) (u + c) (v + d) x y g) := by unfold tcT; simp
       rw [q1] at e
       exact tn_ok (fun x' y' d' e0 => mx_ok (by omega) (by omega) (by omega) (by omega) (by omega) e0) e
   · rcases shB_kinds s2 with ⟨rfl, rfl, b0, b1⟩ | ⟨rfl, b0, b1, b2, b3⟩
     · have q1 : tcT 2 g h x y 1 c 0 u v = mxT (x - g) (y - h) (x + g) (y + h) u v c := by unfold tcT; simp
       rw [q1] at e
       exact mx_ok (by omega) (by omega) (by omega) (by omega) (by omega) e
     · have q1 : tcT 2 g h x y 2 c d u v = bxT (x - g) (y - h) (x + g) (y + h) (u - c) (v - d) (u + c) (v + d) := by unfold tcT; simp
       rw [q1] at e
       exact bx_ok (by omega) (by omega) e
 · simp at e
def Fives (P : Int → Int → Int → Int → Int → Prop) (l : List Int) : Prop := ∃ m, l.length = m * 5 ∧ ∀ k, k < m → P (ofL l (k * 5)) (ofL l (k * 5 + 1)) (ofL l (k * 5 + 2)) (ofL l (k * 5 + 3)) (ofL l (k * 5 + 4))
theorem ofL_l {l r : List Int} {q : Nat} (h : q < l.length) : ofL (l ++ r) q = ofL l q := by
 unfold ofL; rw [List.getD_eq_getElem?_getD, List.getD_eq_getElem?_getD, List.getElem?_append_left h]
theorem ofL_r {l r : List Int} {q : Nat} (h : l.length ≤ q) : ofL (l ++ r) q = ofL r (q - l.length) := by
 unfold ofL; rw [List.getD_eq_getElem?_getD, List.getD_eq_getElem?_getD, List.getElem?_append_right h]
theorem Fives.nil (P : Int → Int → Int → Int → Int → Prop) : Fives P [] := ⟨0, rfl, fun k h => by omega⟩
theorem Fives.one {P : Int → Int → Int → Int → Int → Prop} {a b x y d : Int} (h : P a b x y d) : Fives P [a, b, x, y, d] := by
 refine ⟨1, rfl, fun k hk => ?_⟩
 obtain rfl : k = 0 := by omega
 exact h
theorem Fives.app {P : Int → Int → Int → Int → Int → Prop} {l r : List Int} (h1 : Fives P l) (h2 : Fives P r) : Fives P (l ++ r) := by
 obtain ⟨m, e1, p1⟩ := h1
 obtain ⟨m', e2, p2⟩ := h2
 refine ⟨m + m', by rw [List.length_append, e1, e2]; omega, fun k hk => ?_⟩
 by_cases c : k < m
 · rw [ofL_l (by omega), ofL_l (by omega), ofL_l (by omega), ofL_l (by omega), ofL_l (by omega)]
   exact p1 k c
 · rw [ofL_r (by omega), ofL_r (by omega), ofL_r (by omega), ofL_r (by omega), ofL_r (by omega), e1, show k * 5 - m * 5 = (k - m) * 5 by omega, show k * 5 + 1 - m * 5 = (k - m) * 5 + 1 by omega, show k * 5 + 2 - m * 5 = (k - m) * 5 + 2 by omega, show k * 5 + 3 - m * 5 = (k - m) * 5 + 3 by omega, show k * 5 + 4 - m * 5 = (k - m) * 5 + 4 by omega]
   exact p2 (k - m) (by omega)
def CtP (n : Nat) (a b x y d : Int) : Prop := 0 ≤ a ∧ a < b ∧ b < (n : Int) ∧ HitOk x y d
theorem conOne_ok (C : Nat → Nat → Int) {n i k : Nat} (hk : k < n) : Fives (CtP n) (conOne C i k) := by
 unfold conOne
 split
 · rename_i h
   unfold conB at h
   simp only [Bool.and_eq_true, decide_eq_true_eq] at h
   have e : toT (C 1 i) (C 2 i) (C 3 i) (C 4 i) (C 5 i) (C 1 k) (C 2 k) (C 3 k) (C 4 k) (C 5 k) = (((tcH C i k).1.1, (tcH C i k).1.2.1, (tcH C i k).1.2.2), true) := by
    show tcH C i k = _
    rw [← h.2.2]
   exact Fives.one ⟨by omega, by omega, by omega, toT_ok e⟩
 · exact Fives.nil _
theorem conIn_ok (C : Nat → Nat → Int) {n i : Nat} : ∀ k, k ≤ n → Fives (CtP n) (conIn C i k)
 | 0, _ => Fives.nil _
 | k + 1, h => (conIn_ok C k (by omega)).app (conOne_ok C (by omega))
theorem conOut_ok (C : Nat → Nat → Int) {n : Nat} : ∀ i, Fives (CtP n) (conOut C n i)
 | 0 => Fives.nil _
 | i + 1 => (conOut_ok C i).app (conIn_ok C n (Nat.le_refl _))
theorem Fives.ct {n m : Nat} {l : List Int} (h : Fives (CtP n) l) (e : l.length = m * 5) : CtOk n m (ofL l) := by
 obtain ⟨m', e', p⟩ := h
 obtain rfl : m' = m := by omega
 exact ⟨fun k hk => ⟨(p k hk).1, by have := (p k hk).2; omega⟩, fun k hk => ⟨by have := p k hk; unfold CtP at this; omega, (p k hk).2.2.1⟩, fun k hk => by have := (p k hk).2.1; omega, fun k hk => (p k hk).2.2.2.1, fun k hk => (p k hk).2.2.2.2.1, fun k hk => (p k hk).2.2.2.2.2⟩
theorem con_ct (C : Nat → Nat → Int) {n m : Nat} (e : (conL C n).length = m * 5) : CtOk n m (ofL (conL C n)) := (conOut_ok C n).ct e
def prL (U C : Nat → Int) : Nat → List Int
 | 0 => []
 | k + 1 => prL U C k ++ [U ((C (k * 5)).toNat * 12), U ((C (k * 5 + 1)).toNat * 12)]
theorem flat2 (w : World) (p q : Int) (t : TypeId) : Flat (w.alloc (Obj.cells #[.int .i64 p, .int .i64 q] t)) (some ⟨w.heap.size, 0, none⟩) (1 * 2) (ofL [p, q]) := by
 intro _
 refine ⟨w.heap.size, 0, rfl, by simp, fun j hj => ?_⟩
 rw [Nat.zero_add]
 rcases (show j = 0 ∨ j = 1 by omega) with rfl | rfl <;> (simp only [ofL]; go_simp; (try rfl))
theorem OwnL.keptT {w w' : World} {b1 b2 t1 t2 k1 k2 n1 n2 : Nat} {v1 v2 : Value} {U1 U2 : Nat → Int} (h1 : OwnL w b1 t1 k1 v1 n1 U1) (h2 : OwnL w b2 t2 k2 v2 n2 U2) (ht : t1 ≠ t2) (hg : w.grownBy w' v2.ownBlock) : OwnL w' b1 t1 k1 v1 n1 U1 := by
 refine h1.kept hg ?_
 rcases h1.2 with ⟨q, _⟩ | ⟨g, c, cur, hv, _, hb, _⟩
 · left; rw [q]; rfl
 · right
   intro e
   rw [hv] at e
   rcases h2.2 with ⟨q2, _⟩ | ⟨g2, c2, cur2, hv2, _, hb2, _⟩
   · rw [q2] at e; simp [Value.ownBlock] at e
   · rw [hv2] at e
     simp [Value.ownBlock] at e
     subst e
     rw [hb] at hb2
     simp at hb2
     exact ht hb2.2
theorem balloc' (w : World) (o : Obj) : Below w.heap.size w (w.alloc o) := (Below.refl _ _).alloc (Nat.le_refl _) o
theorem l9Pairs_any (a : Option Addr) (n c : Nat) (U : Nat → Int) (w : World) (h : Flat w a (n * 12) U) (hbb : Bods n U) :
 Calls Tryz.prog 111 #[.slice a n c] w fun e w' => ∃ a1 m c1, e = .returned (.slice a1 m c1) ∧ (m ≤ 144 ∧ (conL (colOf U) n).length = m * 5) ∧ OutL w w' 58 2 a1 m c1 (ofL (prL U (ofL (conL (colOf U) n)) m)) := by
 have hset := cset_map
 have hn12 := hbb.le
 obtain ⟨M, hM0, hM1⟩ := conOut_len (colOf U) n n
 have hM : (conL (colOf U) n).length = M * 5 := hM0
 have hM144 : M ≤ 144 := Nat.le_trans hM1 (Nat.mul_le_mul hn12 hn12)
 clear hM0 hM1
 have hC := con_ct (colOf U) hM
 obtain ⟨C, hCe⟩ : ∃ C, ofL (conL (colOf U) n) = C := ⟨_, rfl⟩
 rw [hCe] at hC ⊢
 have V0 := LsV.new w 58 2
 have h1 := h.below V0.bel
 go_enter Tryz.func111, Tryz.ntmps111
 go_upto_region 2 with fail
 go_cut [4] (fun s4 wc => ∃ a2 c2, s4 = .slice a2 M c2 ∧ OwnL wc w.heap.size 195 5 (.slice a2 M c2) M C ∧ LsV w wc 58 2 (some ⟨w.heap.size, 0, none⟩) 0 0 [])
 case first =>
  go_wp2_with (go_at_call 139; refine (l7Contacts_any a n c U _ h1 hbb.to hn12).mono ?_; rintro e w2 ⟨a2, m2, c2, rfl, hl2, hO2⟩)
  obtain rfl : m2 = M := by omega
  rw [hCe] at hO2
  go_meet
  exact ⟨_, _, rfl, hO2.own.base V0.bel.size, V0.below hO2.bel⟩
 case rest =>
 clear V0 h1
 obtain ⟨a2, c2, rfl, f2w, V0⟩ := hcut
 go_upto_region 4 with fail
 go_loopw [3, 5] (fun s3 s5 wr => ∃ (k : Nat) (a1 : Option Addr) (c1 : Nat), k ≤ M ∧ s5 = .int .i64 (k : Int) ∧ s3 = .slice a1 k c1 ∧ OwnL wr w.heap.size 195 5 (.slice a2 M c2) M C ∧ LsV w wr 58 2 a1 k c1 (prL U C k)) (fun _ s5 _ => M - (intOf s5).toNat)
 case atStart => exact ⟨0, _, _, Nat.zero_le _, rfl, rfl, f2w, V0⟩
 case round =>
  clear V0 f2w
  obtain ⟨k, a1, c1, hk, rfl, rfl, f2, hV⟩ := hrel
  by_cases hlt : k < M
  · have hkm : (k : Int) < (M : Int) := by omega
    have ca := hC.a k hlt
    have cb := hC.b k hlt
    have HP : Shut (prL U C (k + 1) = prL U C k ++ [U ((C (k * 5)).toNat * 12), U ((C (k * 5 + 1)).toNat * 12)]) := by show _ = _; rw [prL]
    obtain ⟨A, hA0⟩ : ∃ A : Nat, C (k * 5) = (A : Int) := ⟨(C (k * 5)).toNat, by omega⟩
    obtain ⟨B, hB0⟩ : ∃ B : Nat, C (k * 5 + 1) = (B : Int) := ⟨(C (k * 5 + 1)).toNat, by omega⟩
    rw [hA0, hB0, Int.toNat_natCast, Int.toNat_natCast] at HP
    rw [hA0] at ca
    rw [hB0] at cb
    have hA : Shut (C (k * 5) = (A : Int)) := hA0
    have hBB : Shut (C (k * 5 + 1) = (B : Int)) := hB0
    clear hA0 hB0
    have hAn : A < n := by omega
    have hBn : B < n := by omega
    have hAi : (A : Int) < (n : Int) := ca.2
    have hBi : (B : Int) < (n : Int) := cb.2
    obtain ⟨b0, o0, e0, _, hc0⟩ := (h.below hV.bel) (by omega)
    obtain ⟨b1, o1, e1, _, hc1⟩ := f2.flat (by omega)
    have r0 : wr.cell? ⟨b1, o1 + k * 5, none⟩ = some (.int .i64 (A : Int)) := by have q := hc1 (k * 5) (by omega); rw [hA.out] at q; simpa [Nat.add_assoc] using q
    have r1 : wr.cell? ⟨b1, o1 + k * 5 + 1, none⟩ = some (.int .i64 (B : Int)) := by have q := hc1 (k * 5 + 1) (by omega); rw [hBB.out] at q; simpa [Nat.add_assoc] using q
    have rA : wr.cell? ⟨b0, o0 + A * 12, none⟩ = some (.int .i64 (U (A * 12))) := by have q := hc0 (A * 12) (by omega); simpa [Nat.add_assoc] using q
    have rB : wr.cell? ⟨b0, o0 + B * 12, none⟩ = some (.int .i64 (U (B * 12))) := by have q := hc0 (B * 12) (by omega); simpa [Nat.add_assoc] using q
    clear hc0 hc1
    subst e0 e1
    go_upto_region 6 with fail
    refine wp_region_held_drew (S := fun w' => w'.cell? ⟨b1, o1 + k * 5, none⟩ = some (.int .i64 (A : Int)) ∧ w'.cell? ⟨b1, o1 + k * 5 + 1, none⟩ = some (.int .i64 (B : Int)) ∧ w'.cell? ⟨b0, o0 + A * 12, none⟩ = some (.int .i64 (U (A * 12))) ∧ w'.cell? ⟨b0, o0 + B * 12, none⟩ = some (.int .i64 (U (B * 12)))) (by kernel_rfl) ?_ (fun hHeld => ?_)
    · (try dsimp only)
      (first | (go_simp; done) | (go_keep; done))
    refine tq 0 hHeld ?_
    refine tq 1 hHeld ?_
    refine tq 2 hHeld ?_
    refine tq 3 hHeld ?_
    refine tq 4 hHeld ?_
    refine tq 5 hHeld ?_
    refine tq 6 hHeld ?_
    refine tq 7 hHeld ?_
    refine tq 8 hHeld ?_
    refine tq 9 hHeld ?_
    refine tq 10 hHeld ?_
    refine tq 11 hHeld ?_
    refine tq 12 hHeld ?_
    refine tq 13 hHeld ?_
    refine tq 14 hHeld ?_
    refine tq 15 hHeld ?_
    refine tq 16 hHeld ?_
    refine tq 17 hHeld ?_
    refine tq 18 hHeld ?_
    refine tq 19 hHeld ?_
    refine tc 20 fun K hK => ?_
    (go_simp
     have hE : Below wr.heap.size wr (wr.alloc (Obj.cells #[.int .i64 (U (A * 12)), .int .i64 (U (B * 12))] 58)).drew := Below.drew (balloc' wr _)
     have hVE := hV.below hE
     have f2E := f2.below hE
     have hF : Flat (wr.alloc (Obj.cells #[.int .i64 (U (A * 12)), .int .i64 (U (B * 12))] 58)).drew (some ⟨wr.heap.size, 0, none⟩) (1 * 2) (ofL [U (A * 12), U (B * 12)]) := flat2 wr _ _ _
     clear r0 r1 rA rB hV f2
     have hV := hVE
     have f2 := f2E
     clear hVE hE f2E
     generalize (wr.alloc (Obj.cells #[.int .i64 (U (A * 12)), .int .i64 (U (B * 12))] 58)).drew = w6 at hV hF f2 ⊢
     generalize wr.heap.size = eb at hF ⊢
     obtain ⟨b0', o0', e0', _, hc0⟩ := (h.below hV.bel) (by omega)
     cases e0'
     obtain ⟨b1', o1', e1', _, hc1⟩ := f2.flat (by omega)
     cases e1'
     have r0 : w6.cell? ⟨b1, o1 + k * 5, none⟩ = some (.int .i64 (A : Int)) := by have q := hc1 (k * 5) (by omega); rw [hA.out] at q; simpa [Nat.add_assoc] using q
     have r1 : w6.cell? ⟨b1, o1 + k * 5 + 1, none⟩ = some (.int .i64 (B : Int)) := by have q := hc1 (k * 5 + 1) (by omega); rw [hBB.out] at q; simpa [Nat.add_assoc] using q
     have rA : w6.cell? ⟨b0, o0 + A * 12, none⟩ = some (.int .i64 (U (A * 12))) := by have q := hc0 (A * 12) (by omega); simpa [Nat.add_assoc] using q
     have rB : w6.cell? ⟨b0, o0 + B * 12, none⟩ = some (.int .i64 (U (B * 12))) := by have q := hc0 (B * 12) (by omega); simpa [Nat.add_assoc] using q
     clear hc0 hc1
     refine tr hK (fun hHeld => ?_)
     clear hK K)
    refine tc 21 fun K hK => ?_
    (refine step_app rfl _ _ _ rfl w.heap.size 58 2 16 zcPair Tryz.underlying24 infoItPair rfl (by decide) (.slice a1 k c1) k (ofL (prL U C k)) rfl hV.own (some ⟨eb, 0, none⟩) 1 1 (ofL [U (A * 12), U (B * 12)]) rfl hF (by unfold maxLen; omega) (by omega) hV.bel.size ?_
     intro a7 c7 w7 ho7 hg7
     have hV7 := hV.push (x := [U (A * 12), U (B * 12)]) rfl hg7 ho7
     have f27 := f2.keptT hV.own (by decide) hg7
     clear r0 r1 rA rB hV hF f2
     have hV := hV7
     have f2 := f27
     clear hV7 ho7 hg7 f27
     obtain ⟨b0', o0', e0', _, hc0⟩ := (h.below hV.bel) (by omega)
     cases e0'
     obtain ⟨b1', o1', e1', _, hc1⟩ := f2.flat (by omega)
     cases e1'
     have r0 : w7.cell? ⟨b1, o1 + k * 5, none⟩ = some (.int .i64 (A : Int)) := by have q := hc1 (k * 5) (by omega); rw [hA.out] at q; simpa [Nat.add_assoc] using q
     have r1 : w7.cell? ⟨b1, o1 + k * 5 + 1, none⟩ = some (.int .i64 (B : Int)) := by have q := hc1 (k * 5 + 1) (by omega); rw [hBB.out] at q; simpa [Nat.add_assoc] using q
     have rA : w7.cell? ⟨b0, o0 + A * 12, none⟩ = some (.int .i64 (U (A * 12))) := by have q := hc0 (A * 12) (by omega); simpa [Nat.add_assoc] using q
     have rB : w7.cell? ⟨b0, o0 + B * 12, none⟩ = some (.int .i64 (U (B * 12))) := by have q := hc0 (B * 12) (by omega); simpa [Nat.add_assoc] using q
     clear hc0 hc1
     refine tr hK (fun hHeld => ?_)
     clear hK K)
    refine tq 22 hHeld ?_
    refine wpAnyH_done (by kernel_rfl) ?_ _
    go_wp2_with fail
    go_roundw
    case rel => exact ⟨k + 1, _, _, by omega, by go_num, rfl, f2, by rw [HP.out]; exact hV⟩
    case measure => simp [intOf]; omega
  · obtain rfl : k = M := by omega
    go_wp2_with fail
    go_ret
    exact ⟨_, _, _, rfl, ⟨hM144, hM⟩, hV.bel, hV.own⟩
def ascU (U : Nat → Int) (n : Nat) : Prop := ∀ q r, q < r → r < n → U (q * 12) < U (r * 12)
theorem allBB_get {U : Nat → Int} : ∀ {n k : Nat}, allBB U n = true → k < n → stepBB U k = true
 | 0, k, _, l => absurd l (Nat.not_lt_zero _)
 | n + 1, k, h, l => by
  unfold allBB at h
  rw [Bool.and_eq_true] at h
  rcases Nat.lt_succ_iff_lt_or_eq.1 l with l | rfl
  · exact allBB_get h.1 l
  · exact h.2
theorem bodsB_asc {U : Nat → Int} {n : Nat} (h : bodsB n U = true) : ascU U n := by
 unfold bodsB at h
 rw [Bool.and_eq_true] at h
 have one : ∀ r, r + 1 < n → U (r * 12) < U ((r + 1) * 12) := fun r hr => by
  have := allBB_get h.2 hr
  unfold stepBB at this
  rw [Bool.and_eq_true, Bool.or_eq_true, decide_eq_true_eq, decide_eq_true_eq] at this
  rcases this.2 with q | q
  · omega
  · simpa using q
 intro q r hqr hr
 induction r with
 | zero => omega
 | succ r ih =>
  by_cases e : q = r
  · subst e; exact one q hr
  · exact Int.lt_trans (ih (by omega) (by omega)) (one r hr)
structure idP (U : Nat → Int) (n : Nat) (id : Int) (p : Nat) : Prop where
 le : p ≤ n
 lo : ∀ q, q < p → U (q * 12) < id
 hi : p < n → id ≤ U (p * 12)
theorem idP_ex (U : Nat → Int) (id : Int) : ∀ n, ∃ p, idP U n id p
 | 0 => ⟨0, Nat.le_refl _, fun q h => absurd h (Nat.not_lt_zero _), fun h => absurd h (Nat.lt_irrefl _)⟩
 | n + 1 => by
  obtain ⟨p, h1, h2, h3⟩ := idP_ex U id n
  by_cases e : p < n
  · exact ⟨p, by omega, h2, fun _ => h3 e⟩
  · by_cases l : U (n * 12) < id
    · exact ⟨n + 1, Nat.le_refl _, fun q hq => by
       by_cases e2 : q = n
       · subst e2; exact l
       · exact h2 q (by omega), fun h => absurd h (Nat.lt_irrefl _)⟩
    · exact ⟨n, by omega, fun q hq => h2 q (by omega), fun _ => by omega⟩
def hasF (U : Nat → Int) (n : Nat) (id : Int) : Bool := (List.range n).any fun k => decide (U (k * 12) = id)
theorem hasF_at {U : Nat → Int} {n p : Nat} {id : Int} (ha : ascU U n) (h : idP U n id p) : hasF U n id = decide (p < n ∧ U (p * 12) = id) := by
 unfold hasF
 by_cases e : p < n ∧ U (p * 12) = id
 · rw [decide_eq_true e, List.any_eq_true]
   exact ⟨p, List.mem_range.2 e.1, decide_eq_true e.2⟩
 · rw [decide_eq_false e, ← Bool.not_eq_true, List.any_eq_true]
   rintro ⟨k, hk, hd⟩
   rw [List.mem_range] at hk
   rw [decide_eq_true_eq] at hd
   rcases Nat.lt_trichotomy k p with l | l | l
   · have := h.lo k l; omega
   · subst l; exact e ⟨hk, hd⟩
   · have h1 := h.hi (by omega)
     have h2 := ha p k l hk
     omega
def aheadB (a b c d : Int) : Bool := decide (a < c ∨ a = c ∧ b < d)
def stepPB (U : Nat → Int) (n : Nat) (Q : Nat → Int) (i : Nat) : Bool :=
 decide (Q (i * 2) < Q (i * 2 + 1)) && (hasF U n (Q (i * 2)) && (hasF U n (Q (i * 2 + 1)) && (decide (i = 0) || aheadB (Q ((i - 1) * 2)) (Q ((i - 1) * 2 + 1)) (Q (i * 2)) (Q (i * 2 + 1)))))
def allPB (U : Nat → Int) (n : Nat) (Q : Nat → Int) : Nat → Bool
 | 0 => true
 | i + 1 => allPB U n Q i && stepPB U n Q i
theorem allPB_no {U : Nat → Int} {n : Nat} {Q : Nat → Int} {k : Nat} (h : stepPB U n Q k = false) : ∀ m, k < m → allPB U n Q m = false
 | 0, l => absurd l (Nat.not_lt_zero _)
 | m + 1, l => by
  unfold allPB
  rcases Nat.lt_succ_iff_lt_or_eq.1 l with l | rfl
  · rw [allPB_no h m l]; rfl
  · rw [h, Bool.and_false]
def worldB (T P : Int) (n : Nat) (U : Nat → Int) (m : Nat) (Q : Nat → Int) : Bool := decide (0 ≤ T ∧ T ≤ 100000) && (decide (0 ≤ P ∧ P ≤ 2560) && (bodsB n U && allPB U n Q m))
def cmpI (x y : Int) : Int := if x < y then -1 else if y < x then 1 else 0
theorem l11AnyShape_s (rb p : Nat) (w : World) (hs0 : RS w rb p) (hp : p ≤ 997000) :
 Calls Tryz.prog 63 #[.pointer (some ⟨rb, 0, none⟩)] w fun e w' => ∃ k g h : Int, e = .returned (s3 k g h) ∧ (Bn k ∧ Bn g ∧ Bn h) ∧ RB w w' rb (p + 600) := by
 have hlt := hs0.lt
 have hne : (w.heap.size = rb) = False := eq_false (by omega)
 have hset := cset_map
 go_enter Tryz.func63, Tryz.ntmps63
 go_wp2_with (first
  | (have _ := hr1; go_at_call 19; refine (pick_s rb (p + 200) _ _ (by repeat (first | (with_reducible apply RS.setNew; rotate_left; (first | omega | (simp only [zz]; omega))) | with_reducible apply RS.alloc | (with_reducible apply RS.up hr1; omega) | (with_reducible apply RS.mono hs0; omega) | with_reducible apply RS.drew | with_reducible apply RS.drewN)) (by omega) (by omega) (by omega)).mono ?_; rintro e w2 ⟨v2, rfl, va2, vb2, hr2⟩; obtain ⟨hc2, hf2⟩ := RB.cells hr2; have hz2 := RB.size hr2; (try simp only [zz] at hc2 hf2 hz2); have hq2x0 : w.heap.size < w2.heap.size := (by omega); have ha2x0 : (w2.heap.size = w.heap.size) = False := eq_false (by omega); have hb2x0 : (w.heap.size = w2.heap.size) = False := eq_false (by omega); have he2x0 : (w.heap.size = rb) = False := eq_false (by omega); have hk2x0 := fun o => hc2 (w.heap.size) o (by omega) (by omega); have hj2x0 := fun o => hf2 (w.heap.size) o (by omega) (by omega); have hq2x1 : w1.heap.size < w2.heap.size := (by omega); have ha2x1 : (w2.heap.size = w1.heap.size) = False := eq_false (by omega); have hb2x1 : (w1.heap.size = w2.heap.size) = False := eq_false (by omega); have he2x1 : (w1.heap.size = rb) = False := eq_false (by omega); have hk2x1 := fun o => hc2 (w1.heap.size) o (by omega) (by omega); have hj2x1 := fun o => hf2 (w1.heap.size) o (by omega) (by omega))
  | (have _ := hr2; go_at_call 48; refine (one_s (-1) 25601 rb (p + 300) _ _ _ _ _ (by repeat (first | (with_reducible apply RS.setNew; rotate_left; (first | omega | (simp only [zz]; omega))) | with_reducible apply RS.alloc | (with_reducible apply RS.up hr2; omega) | (with_reducible apply RS.mono hs0; omega) | with_reducible apply RS.drew | with_reducible apply RS.drewN)) (by omega) (by repeat (first | exact AllBd.nil | refine AllBd.cons (by omega) (by omega) ?_)) (by rfl) (by omega) (by omega)).mono ?_; rintro e w3 ⟨v3, rfl, va3, vb3, hr3⟩; obtain ⟨hc3, hf3⟩ := RB.cells hr3; have hz3 := RB.size hr3; (try simp only [zz] at hc3 hf3 hz3); have hq3x0 : w.heap.size < w3.heap.size := (by omega); have ha3x0 : (w3.heap.size = w.heap.size) = False := eq_false (by omega); have hb3x0 : (w.heap.size = w3.heap.size) = False := eq_false (by omega); have he3x0 : (w.heap.size = rb) = False := eq_false (by omega); have hk3x0 := fun o => hc3 (w.heap.size) o (by omega) (by omega); have hj3x0 := fun o => hf3 (w.heap.size) o (by omega) (by omega); have hq3x1 : w1.heap.size < w3.heap.size := (by omega); have ha3x1 : (w3.heap.size = w1.heap.size) = False := eq_false (by omega); have hb3x1 : (w1.heap.size = w3.heap.size) = False := eq_false (by omega); have he3x1 : (w1.heap.size = rb) = False := eq_false (by omega); have hk3x1 := fun o => hc3 (w1.heap.size) o (by omega) (by omega); have hj3x1 := fun o => hf3 (w1.heap.size) o (by omega) (by omega))
  | (go_at_call 94; refine (l11Shape_s rb (p + 100) _ (by repeat (first | (with_reducible apply RS.setNew; rotate_left; (first | omega | (simp only [zz]; omega))) | with_reducible apply RS.alloc | (with_reducible apply RS.mono hs0; omega) | with_reducible apply RS.drew | with_reducible apply RS.drewN)) (by omega)).mono ?_; rintro e w1 ⟨k1, g1, h1, rfl, hd1, hr1⟩; obtain ⟨hc1, hf1⟩ := RB.cells hr1; have hz1 := RB.size hr1; (try simp only [zz] at hc1 hf1 hz1); have hq1x0 : w.heap.size < w1.heap.size := (by omega); have ha1x0 : (w1.heap.size = w.heap.size) = False := eq_false (by omega); have hb1x0 : (w.heap.size = w1.heap.size) = False := eq_false (by omega); have he1x0 : (w.heap.size = rb) = False := eq_false (by omega); have hk1x0 := fun o => hc1 (w.heap.size) o (by omega) (by omega); have hj1x0 := fun o => hf1 (w.heap.size) o (by omega) (by omega); obtain ⟨⟨k1a, k1b⟩, ⟨g1a, g1b⟩, ⟨h1a, h1b⟩⟩ := hd1))
 · exact bodyPost_ret (v := s3 v3 g1 h1) (by simp [results, Tryz.results63, go_sem, *]) rfl ⟨_, _, _, rfl, ⟨Bn.mk ⟨by omega, by omega⟩, Bn.mk ⟨by omega, by omega⟩, Bn.mk ⟨by omega, by omega⟩⟩, RB.mk (by repeat (first | (with_reducible apply But.setNew; rotate_left; (first | omega | (simp only [zz]; omega))) | with_reducible apply But.alloc | with_reducible apply But.trans (k := RB.but hr3) | with_reducible apply But.trans (k := RB.but hr2) | with_reducible apply But.trans (k := RB.but hr1) | with_reducible apply But.refl | with_reducible apply But.drewN | with_reducible apply But.drew)) (by repeat (first | (with_reducible apply RS.setNew; rotate_left; (first | omega | (simp only [zz]; omega))) | with_reducible apply RS.alloc | (with_reducible apply RS.up hr3; omega) | (with_reducible apply RS.up hr2; omega) | (with_reducible apply RS.up hr1; omega) | (with_reducible apply RS.mono hs0; omega) | with_reducible apply RS.drew | with_reducible apply RS.drewN))⟩
 · exact bodyPost_ret (v := s3 k1 v3 h1) (by simp [results, Tryz.results63, go_sem, *]) rfl ⟨_, _, _, rfl, ⟨Bn.mk ⟨by omega, by omega⟩, Bn.mk ⟨by omega, by omega⟩, Bn.mk ⟨by omega, by omega⟩⟩, RB.mk (by repeat (first | (with_reducible apply But.setNew; rotate_left; (first | omega | (simp only [zz]; omega))) | with_reducible apply But.alloc | with_reducible apply But.trans (k := RB.but hr3) | with_reducible apply But.trans (k := RB.but hr2) | with_reducible apply But.trans (k := RB.but hr1) | with_reducible apply But.refl | with_reducible apply But.drewN | with_reducible apply But.drew)) (by repeat (first | (with_reducible apply RS.setNew; rotate_left; (first | omega | (simp only [zz]; omega))) | with_reducible apply RS.alloc | (with_reducible apply RS.up hr3; omega) | (with_reducible apply RS.up hr2; omega) | (with_reducible apply RS.up hr1; omega) | (with_reducible apply RS.mono hs0; omega) | with_reducible apply RS.drew | with_reducible apply RS.drewN))⟩
 · exact bodyPost_ret (v := s3 k1 g1 v3) (by simp [results, Tryz.results63, go_sem, *]) rfl ⟨_, _, _, rfl, ⟨Bn.mk ⟨by omega, by omega⟩, Bn.mk ⟨by omega, by omega⟩, Bn.mk ⟨by omega, by omega⟩⟩, RB.mk (by repeat (first | (with_reducible apply But.setNew; rotate_left; (first | omega | (simp only [zz]; omega))) | with_reducible apply But.alloc | with_reducible apply But.trans (k := RB.but hr3) | with_reducible apply But.trans (k := RB.but hr2) | with_reducible apply But.trans (k := RB.but hr1) | with_reducible apply But.refl | with_reducible apply But.drewN | with_reducible apply But.drew)) (by repeat (first | (with_reducible apply RS.setNew; rotate_left; (first | omega | (simp only [zz]; omega))) | with_reducible apply RS.alloc | (with_reducible apply RS.up hr3; omega) | (with_reducible apply RS.up hr2; omega) | (with_reducible apply RS.up hr1; omega) | (with_reducible apply RS.mono hs0; omega) | with_reducible apply RS.drew | with_reducible apply RS.drewN))⟩
 · exact bodyPost_ret (v := s3 k1 g1 h1) (by simp [results, Tryz.results63, go_sem, *]) rfl ⟨_, _, _, rfl, ⟨Bn.mk ⟨by omega, by omega⟩, Bn.mk ⟨by omega, by omega⟩, Bn.mk ⟨by omega, by omega⟩⟩, RB.mk (by repeat (first | (with_reducible apply But.setNew; rotate_left; (first | omega | (simp only [zz]; omega))) | with_reducible apply But.alloc | with_reducible apply But.trans (k := RB.but hr2) | with_reducible apply But.trans (k := RB.but hr1) | with_reducible apply But.refl | with_reducible apply But.drewN | with_reducible apply But.drew)) (by repeat (first | (with_reducible apply RS.setNew; rotate_left; (first | omega | (simp only [zz]; omega))) | with_reducible apply RS.alloc | (with_reducible apply RS.up hr2; omega) | (with_reducible apply RS.up hr1; omega) | (with_reducible apply RS.mono hs0; omega) | with_reducible apply RS.drew | with_reducible apply RS.drewN))⟩
def Blk (w : World) (b : Nat) (cs : Array Value) (t : TypeId) : Prop := w.heap[b]? = some (.cells cs t (0, 0))
theorem Blk.lt {w : World} {b : Nat} {cs : Array Value} {t : TypeId} (h : Blk w b cs t) : b < w.heap.size := by
 rcases Nat.lt_or_ge b w.heap.size with q | q
 · exact q
 · unfold Blk at h; rw [Array.getElem?_eq_none q] at h; cases h
theorem Blk.cell {w : World} {b : Nat} {cs : Array Value} {t : TypeId} (h : Blk w b cs t) (i : Nat) {v : Value} (hv : cs[i]? = some v) : w.cell? ⟨b, i, none⟩ = some v := by unfold Blk at h; simp [World.cell?, h, hv]
theorem Blk.f {w : World} {b : Nat} {cs : Array Value} {t : TypeId} (h : Blk w b cs t) : ∀ o, w.frozen? ⟨b, o, none⟩ = false := by unfold Blk at h; intro o; simp [World.frozen?, h]
theorem Blk.on {w w' : World} {b : Nat} {cs : Array Value} {t : TypeId} (h : Blk w b cs t) (hb : Below w.heap.size w w') : Blk w' b cs t := (hb.block b h.lt).trans h
theorem Blk.but {w w' : World} {b rb : Nat} {cs : Array Value} {t : TypeId} (h : Blk w b cs t) (hb : But rb w w') (hn : b ≠ rb) : Blk w' b cs t := (hb.block b h.lt hn).trans h
theorem Blk.new (w : World) (cs : Array Value) (t : TypeId) : Blk (w.alloc (.cells cs t)) w.heap.size cs t := by show (w.heap.push _)[w.heap.size]? = _; simp
theorem Blk.al {w : World} {b : Nat} {cs : Array Value} {t : TypeId} (h : Blk w b cs t) (o : Obj) : Blk (w.alloc o) b cs t := h.on ((Below.refl _ _).alloc (Nat.le_refl _) o)
theorem Blk.dr {w : World} {b : Nat} {cs : Array Value} {t : TypeId} (h : Blk w b cs t) : Blk w.drew b cs t := h
theorem Blk.far {w : World} {b b' o : Nat} {cs : Array Value} {t : TypeId} (h : Blk w b cs t) (hn : b ≠ b') (v : Value) : Blk (w.setCell ⟨b', o, none⟩ v) b cs t := (Below.heap_setCell w ⟨b', o, none⟩ v b hn).trans h
theorem Blk.put {w : World} {b : Nat} {cs : Array Value} {t : TypeId} (h : Blk w b cs t) (i : Nat) (v : Value) : Blk (w.setCell ⟨b, i, none⟩ v) b (cs.setIfInBounds i v) t := by
 show (w.heap.modify b _)[b]? = _
 unfold Blk at h
 rw [Array.getElem?_modify, if_pos rfl, h]
 rfl
theorem Blk.ne {w : World} {b base t t' k n : Nat} {cs : Array Value} {v : Value} {U : Nat → Int} (h : Blk w b cs t') (ho : OwnL w base t k v n U) (ht : t ≠ t') : v.ownBlock ≠ some b := by
 intro e
 rcases ho.2 with ⟨hv, _⟩ | ⟨g', cap, cur, hv, hb, hg, _⟩
 · subst hv; simp [Value.ownBlock] at e
 · subst hv
   simp [Value.ownBlock] at e
   subst e
   unfold Blk at h
   rw [h] at hg
   simp only [Option.some.injEq, Obj.cells.injEq] at hg
   exact ht hg.2.1.symm
theorem OwnL.dr {w : World} {base t k n : Nat} {v : Value} {U : Nat → Int} (h : OwnL w base t k v n U) : OwnL w.drew base t k v n U := World.ownsRow.drew h
theorem OwnL.al {w : World} {base t k n : Nat} {v : Value} {U : Nat → Int} (h : OwnL w base t k v n U) (o : Obj) : OwnL (w.alloc o) base t k v n U := h.below ((Below.refl _ _).alloc (Nat.le_refl _) o)
theorem OwnL.btb {w w' : World} {rb base t k n : Nat} {v : Value} {U : Nat → Int} (h : OwnL w base t k v n U) (hb : But rb w w') (hr : rb < base) : OwnL w' base t k v n U := by
 have hg : w.grownBy w' (Option.some rb) := ⟨hb.os, hb.tape, hb.output, hb.size, fun j hj hne => hb.block j hj (fun e => hne (by rw [e]))⟩
 cases e : v.ownBlock with
 | none => exact World.ownsRow.kept h hg (.inl e)
 | some b => exact World.ownsRow.kept h hg (.inr (by rw [e]; intro q; have := (h.lt b e).1; simp at q; omega))
theorem OwnL.stb {w : World} {base b o t k n : Nat} {v : Value} {U : Nat → Int} (h : OwnL w base t k v n U) (hn : v.ownBlock ≠ Option.some b) (x : Value) : OwnL (w.setCell ⟨b, o, none⟩ x) base t k v n U :=
 h.kept (row := Option.some b) ⟨rfl, rfl, rfl, by simp, fun j hj hne => Below.heap_setCell _ _ _ _ (fun e => hne (by rw [e]))⟩ (.inr hn)
theorem RB.al {w0 w : World} {rb p : Nat} (h : RB w0 w rb p) (o : Obj) : RB w0 (w.alloc o) rb p := h.alloc o
theorem RB.rs {w0 w : World} {rb p : Nat} (h : RB w0 w rb p) : RS w rb p := RS.of h
end Go.Proofs.YthijeiehcdoidaaGreat
