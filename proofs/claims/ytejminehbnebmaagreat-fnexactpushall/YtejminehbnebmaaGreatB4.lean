/- The contracts of the shapes: what is ok. How two round shapes, and two boxes, touch, by the specification. How a box and something round touch, by the specification. The contracts of places and figures. How two shapes touch, kind by kind, by the specification. How two shapes touch, by the specification. Bodies that touch, two by two: as numbers; a list that grows in a variable. A ring of meetings. A list of meetings in memory of its own; what it is to a ring. All rows of some columns, told one by one. -/
import Derived.Test.YtejminehbnebmaaGreatB3
import Derived.Deep.RegionHeld3
import Derived.Deep.DeepCutAuto
import Derived.Deep.QuietTactic
import Derived.BigQuiet
import Derived.Deep.RegionWith
import Derived.Test.YtejminehbnebmaaGreatB2
import Derived.Deep.AppendLies
import Derived.LoopNIn
import Derived.LoopIn
import Derived.OwnWalkIn
import Derived.RangeFuncBound
import Derived.Shelf.Abstract
namespace Go.Proofs.YtejminehbnebmaaGreat
open Go.RowKit
set_option linter.unusedVariables false
set_option linter.unusedSimpArgs false

def szB (n : Int) : Bool := decide (1 ≤ n ∧ n ≤ 25600)
theorem isSize_any (n : Int) (w : World) :
    Calls Tryz.prog 97 #[.int .i64 n] w fun e w' => e = .returned (.bool (szB n)) ∧ w' = w := by
  go_enter Tryz.func97, Tryz.ntmps97
  go_wp2
  all_goals
    go_ret
    refine ⟨ret_bool ?_, rfl⟩
    unfold szB
    first | (simp; omega) | (simp; done)

/-- whether a shape is ok -/
def rdB (k wd h : Int) : Bool := decide (k = 1 ∧ (1 ≤ wd ∧ wd ≤ 25600) ∧ h = 0)
def bxB (k wd h : Int) : Bool := decide (k = 2 ∧ (1 ≤ wd ∧ wd ≤ 25600) ∧ (1 ≤ h ∧ h ≤ 25600))
def shB (k wd h : Int) : Bool := rdB k wd h || bxB k wd h
abbrev s3 (k wd h : Int) : Value := .agg #[.int .i64 k, .int .i64 wd, .int .i64 h]

theorem figureOf_round (wd : Int) (w : World) (h1 : 1 ≤ wd) (h2 : wd ≤ 25600) :
    Calls Tryz.prog 91 #[s3 1 wd 0] w fun e w' => e = .returned (.tuple #[.iface 144 (.agg #[.int .i64 wd]), .bool true]) ∧ Below w.heap.size w w' := by
  have hs : szB wd = true := by unfold szB; simp; omega
  go_enter Tryz.func91, Tryz.ntmps91
  go_wp2_with (go_at_call 97; refine (isSize_any _ _).mono ?_; rintro e w' ⟨rfl, rfl⟩)
  go_ret2
  exact ⟨rfl, (Below.refl _ _).alloc (Nat.le_refl _) _⟩
theorem figureOf_box (wd h : Int) (w : World) (h1 : 1 ≤ wd) (h2 : wd ≤ 25600) (h3 : 1 ≤ h) (h4 : h ≤ 25600) :
    Calls Tryz.prog 91 #[s3 2 wd h] w fun e w' => e = .returned (.tuple #[.iface 146 (.agg #[.int .i64 wd, .int .i64 h]), .bool true]) ∧ Below w.heap.size w w' := by
  have hs : szB wd = true := by unfold szB; simp; omega
  have hs2 : szB h = true := by unfold szB; simp; omega
  go_enter Tryz.func91, Tryz.ntmps91
  go_wp2_with (go_at_call 97; refine (isSize_any _ _).mono ?_; rintro e w' ⟨rfl, rfl⟩)
  go_ret2
  exact ⟨rfl, (Below.refl _ _).alloc (Nat.le_refl _) _⟩
set_option maxHeartbeats 1000000 in
theorem figureOf_none (k wd h : Int) (w : World) (hn : shB k wd h = false) :
    Calls Tryz.prog 91 #[s3 k wd h] w fun e w' => e = .returned (.tuple #[.nilIface, .bool false]) ∧ Below w.heap.size w w' := by
  have HN : Hid (¬ ((k = 1 ∧ (1 ≤ wd ∧ wd ≤ 25600) ∧ h = 0) ∨ (k = 2 ∧ (1 ≤ wd ∧ wd ≤ 25600) ∧ (1 ≤ h ∧ h ≤ 25600)))) := by
    unfold shB rdB bxB at hn
    simp only [Bool.or_eq_false_iff, decide_eq_false_iff_not] at hn
    rintro (h | h)
    · exact hn.1 h
    · exact hn.2 h
  clear hn
  have hsz : Hid (∀ n, szB n = true → 1 ≤ n ∧ n ≤ 25600) := by intro n hn; unfold szB at hn; simpa using hn
  go_enter Tryz.func91, Tryz.ntmps91
  go_wp2_with (go_at_call 97; refine (isSize_any _ _).mono ?_; rintro e w' ⟨rfl, rfl⟩)
  all_goals
    first
      | (go_ret2; exact ⟨rfl, (Below.refl _ _).alloc (Nat.le_refl _) _⟩)
      | (exfalso; subst k; exact HN.out (.inl ⟨rfl, hsz.out _ ‹_›, by simpa using ‹(h == 0) = true›⟩))
      | (exfalso; subst k; exact HN.out (.inr ⟨rfl, hsz.out _ ‹szB wd = true›, hsz.out _ ‹szB h = true›⟩))

theorem shapeOk_any (k wd h : Int) (w : World) :
    Calls Tryz.prog 75 #[s3 k wd h] w fun e w' => e = .returned (.bool (shB k wd h)) ∧ Below w.heap.size w w' := by
  by_cases hr : rdB k wd h = true
  · have e : shB k wd h = true := by unfold shB; rw [hr]; rfl
    have E : Hid (shB k wd h = true) := e
    clear e
    unfold rdB at hr
    obtain ⟨rfl, ⟨h1, h2⟩, rfl⟩ := of_decide_eq_true hr
    clear hr
    go_enter Tryz.func75, Tryz.ntmps75
    go_wp2_with (go_at_call 91; refine (figureOf_round _ _ h1 h2).mono ?_; rintro e w1 ⟨rfl, hb1⟩)
    go_ret
    exact ⟨ret_bool E.out.symm, ((Below.refl _ _).alloc (Nat.le_refl _) _).trans (hb1.mono (by simp))⟩
  · by_cases hb : bxB k wd h = true
    · have e : shB k wd h = true := by unfold shB; rw [hb]; simp
      have E : Hid (shB k wd h = true) := e
      clear e hr
      unfold bxB at hb
      obtain ⟨rfl, ⟨h1, h2⟩, h3, h4⟩ := of_decide_eq_true hb
      clear hb
      go_enter Tryz.func75, Tryz.ntmps75
      go_wp2_with (go_at_call 91; refine (figureOf_box _ _ _ h1 h2 h3 h4).mono ?_; rintro e w1 ⟨rfl, hb1⟩)
      go_ret
      exact ⟨ret_bool E.out.symm, ((Below.refl _ _).alloc (Nat.le_refl _) _).trans (hb1.mono (by simp))⟩
    · have e : shB k wd h = false := by unfold shB; simp [hr, hb]
      have E : Hid (shB k wd h = false) := e
      clear e hr hb
      go_enter Tryz.func75, Tryz.ntmps75
      go_wp2_with (go_at_call 91; refine (figureOf_none _ _ _ _ E.out).mono ?_; rintro e w1 ⟨rfl, hb1⟩)
      go_ret
      exact ⟨ret_bool E.out.symm, ((Below.refl _ _).alloc (Nat.le_refl _) _).trans (hb1.mono (by simp))⟩

set_option maxHeartbeats 1000000 in
theorem sShapeOk_any (k wd h : Int) (w : World) :
    Calls Tryz.prog 42 #[s3 k wd h] w fun e w' => e = .returned (.bool (shB k wd h)) ∧ Below w.heap.size w w' := by
  go_enter Tryz.func42, Tryz.ntmps42
  go_wp2_with (go_at_call 26; refine (l1In_any _ _ _ _).mono ?_; rintro e w' ⟨rfl, rfl⟩)
  all_goals
    go_ret
    refine ⟨ret_bool ?_, (Below.refl _ _).alloc (Nat.le_refl _) _⟩
    unfold shB rdB bxB
    first | (simp [*]; done) | (simp at *; subst k; simp [*]; done) | (simp at *; subst k; simp [*]; rfl) | (simp at *; subst k; simp; omega) | (simp at *; simp [*]; done)

theorem toShape_any (k wd h : Int) (w : World) :
    Calls Tryz.prog 30 #[s3 k wd h] w fun e w' => e = .returned (s3 k wd h) ∧ Below w.heap.size w w' := by
  have hset := cset_map
  go_enter Tryz.func30, Tryz.ntmps30
  go_wp2
  exact bodyPost_ret (v := s3 k wd h) (by simp [results, Tryz.results30, go_sem, *]) rfl ⟨rfl, by repeat (first | exact Below.refl _ _ | refine Below.setCell ?_ (by first | omega | (simp; done) | (simp; omega)) _ | refine Below.alloc ?_ (by first | omega | (simp; done) | (simp; omega)) _)⟩

end Go.Proofs.YtejminehbnebmaaGreat
namespace Go.Proofs.YtejminehbnebmaaGreat
open Go.RowKit
set_option linter.unusedVariables false
set_option linter.unusedSimpArgs false

/-- how two that are round touch: the way, how deep, and whether they do -/
def rdT (dx dy g : Int) : (Int × Int × Int) × Bool := if dx * dx + dy * dy ≤ g * g then ((ux dx dy, uy dx dy, g - vl dx dy), true) else ((0, 0, 0), false)
/-- the side on which it is least deep -/
def bsT (s0 s1 s2 s3 : Int) : Int × Int × Int :=
  let m1 : Int × Int × Int := if s1 < s0 then (-256, 0, s1) else (256, 0, s0)
  let m2 : Int × Int × Int := if s2 < m1.2.2 then (0, 256, s2) else m1
  if s3 < m2.2.2 then (0, -256, s3) else m2
def bxT (a b c d r s t u : Int) : (Int × Int × Int) × Bool := if (leB a b t u && leB r s c d) = true then (bsT (c - r) (t - a) (d - s) (u - b), true) else ((0, 0, 0), false)

end Go.Proofs.YtejminehbnebmaaGreat
namespace Go.Proofs.YtejminehbnebmaaGreat
open Go.RowKit
set_option linter.unusedVariables false
set_option linter.unusedSimpArgs false

def mxT (a b c d x y g : Int) : (Int × Int × Int) × Bool := if ptB a b c d x y = true then (((bsT (c - x) (x - a) (d - y) (y - b)).1, (bsT (c - x) (x - a) (d - y) (y - b)).2.1, (bsT (c - x) (x - a) (d - y) (y - b)).2.2 + g), true) else rdT (x - mn (mx x a) c) (y - mn (mx y b) d) g
theorem bsT_bd {s0 s1 s2 s3 B : Int} (h0 : -B ≤ s0 ∧ s0 ≤ B) (h1 : -B ≤ s1 ∧ s1 ≤ B) (h2 : -B ≤ s2 ∧ s2 ≤ B) (h3 : -B ≤ s3 ∧ s3 ≤ B) : -B ≤ (bsT s0 s1 s2 s3).2.2 ∧ (bsT s0 s1 s2 s3).2.2 ≤ B ∧ (-256 ≤ (bsT s0 s1 s2 s3).1 ∧ (bsT s0 s1 s2 s3).1 ≤ 256) ∧ (-256 ≤ (bsT s0 s1 s2 s3).2.1 ∧ (bsT s0 s1 s2 s3).2.1 ≤ 256) := by
  unfold bsT
  by_cases a : s1 < s0
  · simp only [if_pos a]
    by_cases b : s2 < s1
    · simp only [if_pos b]
      by_cases c : s3 < s2
      · simp only [if_pos c]; omega
      · simp only [if_neg c]; omega
    · simp only [if_neg b]
      by_cases c : s3 < s1
      · simp only [if_pos c]; omega
      · simp only [if_neg c]; omega
  · simp only [if_neg a]
    by_cases b : s2 < s0
    · simp only [if_pos b]
      by_cases c : s3 < s2
      · simp only [if_pos c]; omega
      · simp only [if_neg c]; omega
    · simp only [if_neg b]
      by_cases c : s3 < s0
      · simp only [if_pos c]; omega
      · simp only [if_neg c]; omega
theorem near_in {a c x B : Int} (ha : -B ≤ a ∧ a ≤ B) (hc : -B ≤ c ∧ c ≤ B) (hx : -B ≤ x ∧ x ≤ B) : -B ≤ mn (mx x a) c ∧ mn (mx x a) c ≤ B := by
  unfold mn mx; repeat' split <;> omega

end Go.Proofs.YtejminehbnebmaaGreat
namespace Go.Proofs.YtejminehbnebmaaGreat
open Go.RowKit
set_option linter.unusedVariables false
set_option linter.unusedSimpArgs false

/-- how far up a shape goes -/
def hh (k wd h : Int) : Int := if k = 1 then wd else h
theorem inB_of {l x y : Int} (h : inB l x y = true) : (-l ≤ x ∧ x ≤ l) ∧ (-l ≤ y ∧ y ≤ l) := by
  unfold inB at h; simp only [decide_eq_true_eq] at h; omega

theorem as_rr (v : Value) (w : World) : (Instr.typeAssert (.iface 144 v) 139 144 true).run Tryz.prog w = .ok (.tuple #[v, .bool true]) w := by kernel_rfl
theorem as_br (v : Value) (w : World) : (Instr.typeAssert (.iface 146 v) 139 144 true).run Tryz.prog w = .ok (.tuple #[.agg #[.int .i64 0], .bool false]) w := by kernel_rfl
theorem as_bb (v : Value) (w : World) : (Instr.typeAssert (.iface 146 v) 139 146 true).run Tryz.prog w = .ok (.tuple #[v, .bool true]) w := by kernel_rfl
set_option maxHeartbeats 1000000 in
theorem l3Place_any (x y : Int) (w : World) :
    Calls Tryz.prog 43 #[vv x y] w fun e w' => e = .returned (.bool (inB 2560000 x y)) ∧ Below w.heap.size w w' := by
  have hset := cset_map
  go_enter Tryz.func43, Tryz.ntmps43
  go_wp2_with (go_at_call 26; refine (l1In_any _ _ _ _).mono ?_; rintro e w' ⟨rfl, rfl⟩)
  all_goals
    go_ret
    refine ⟨ret_bool ?_, bel_a⟩
    unfold inB
    first | (simp [*]; done) | (simp at *; omega) | (simp [*]; omega)

theorem l3Place_t (x y : Int) (w : World) (h : inB 2560000 x y = true) : Calls Tryz.prog 43 #[vv x y] w fun e w' => e = .returned (.bool true) ∧ Below w.heap.size w w' := by
  have k := l3Place_any x y w
  rw [h] at k
  exact k
theorem sShapeOk_t (k wd h : Int) (w : World) (hs : shB k wd h = true) : Calls Tryz.prog 42 #[s3 k wd h] w fun e w' => e = .returned (.bool true) ∧ Below w.heap.size w w' := by
  have q := sShapeOk_any k wd h w
  rw [hs] at q
  exact q
theorem l3Place_n (x y : Int) (w : World) (h : inB 2560000 x y = false) : Calls Tryz.prog 43 #[vv x y] w fun e w' => e = .returned (.bool false) ∧ Below w.heap.size w w' := by
  have k := l3Place_any x y w
  rw [h] at k
  exact k
theorem sShapeOk_n (k wd h : Int) (w : World) (hs : shB k wd h = false) : Calls Tryz.prog 42 #[s3 k wd h] w fun e w' => e = .returned (.bool false) ∧ Below w.heap.size w w' := by
  have q := sShapeOk_any k wd h w
  rw [hs] at q
  exact q
end Go.Proofs.YtejminehbnebmaaGreat
namespace Go.Proofs.YtejminehbnebmaaGreat
open Go.RowKit
set_option linter.unusedVariables false
set_option linter.unusedSimpArgs false

theorem ux_bd2 {x y : Int} (hx : -6000000 ≤ x ∧ x ≤ 6000000) : -1600000000 ≤ ux x y ∧ ux x y ≤ 1600000000 := by
  unfold ux; split
  · omega
  · have := tdiv_bd (x := x * 256) (B := 1600000000) (vl x y) (by omega); exact this
theorem uy_bd2 {x y : Int} (hy : -6000000 ≤ y ∧ y ≤ 6000000) : -1600000000 ≤ uy x y ∧ uy x y ≤ 1600000000 := by
  unfold uy; split
  · omega
  · have := tdiv_bd (x := y * 256) (B := 1600000000) (vl x y) (by omega); exact this
theorem mxT_bd {a b c d x y g X Y D : Int} {K : Bool} (qa : -3000000 ≤ a ∧ a ≤ 3000000) (qb : -3000000 ≤ b ∧ b ≤ 3000000) (qc : -3000000 ≤ c ∧ c ≤ 3000000) (qd : -3000000 ≤ d ∧ d ≤ 3000000) (qx : -3000000 ≤ x ∧ x ≤ 3000000) (qy : -3000000 ≤ y ∧ y ≤ 3000000) (e : mxT a b c d x y g = ((X, Y, D), K)) :
    (-1600000000 ≤ X ∧ X ≤ 1600000000) ∧ (-1600000000 ≤ Y ∧ Y ≤ 1600000000) := by
  unfold mxT at e
  split at e
  · have hb := bsT_bd (s0 := c - x) (s1 := x - a) (s2 := d - y) (s3 := y - b) (B := 6000000) (by omega) (by omega) (by omega) (by omega)
    simp only [Prod.mk.injEq] at e
    obtain ⟨⟨eX, eY, eD⟩, eK⟩ := e
    omega
  · have n1 := near_in (a := a) (c := c) (x := x) (B := 3000000) (by omega) (by omega) (by omega)
    have n2 := near_in (a := b) (c := d) (x := y) (B := 3000000) (by omega) (by omega) (by omega)
    unfold rdT at e
    split at e
    · simp only [Prod.mk.injEq] at e
      obtain ⟨⟨eX, eY, eD⟩, eK⟩ := e
      have h1 := ux_bd2 (x := x - mn (mx x a) c) (y := y - mn (mx y b) d) (by omega)
      have h2 := uy_bd2 (x := x - mn (mx x a) c) (y := y - mn (mx y b) d) (by omega)
      omega
    · simp only [Prod.mk.injEq] at e
      obtain ⟨⟨eX, eY, eD⟩, eK⟩ := e
      omega
def tnT (m : (Int × Int × Int) × Bool) : (Int × Int × Int) × Bool := if m.2 = true then ((-m.1.1, -m.1.2.1, m.1.2.2), true) else ((0, 0, 0), false)

end Go.Proofs.YtejminehbnebmaaGreat
namespace Go.Proofs.YtejminehbnebmaaGreat
open Go.RowKit
set_option linter.unusedVariables false
set_option linter.unusedSimpArgs false

def tcT (k1 g1 h1 x y k2 g2 h2 u v : Int) : (Int × Int × Int) × Bool :=
  if k1 = 1 then (if k2 = 1 then rdT (u - x) (v - y) (g1 + g2) else tnT (mxT (u - g2) (v - h2) (u + g2) (v + h2) x y g1))
  else (if k2 = 1 then mxT (x - g1) (y - h1) (x + g1) (y + h1) u v g2 else bxT (x - g1) (y - h1) (x + g1) (y + h1) (u - g2) (v - h2) (u + g2) (v + h2))
def toT (k1 g1 h1 x y k2 g2 h2 u v : Int) : (Int × Int × Int) × Bool := if (shB k1 g1 h1 && (shB k2 g2 h2 && (inB 2560000 x y && inB 2560000 u v))) = true then tcT k1 g1 h1 x y k2 g2 h2 u v else ((0, 0, 0), false)
theorem sShapeOk_z (k g h : Int) (b : Bool) (w : World) (e : shB k g h = b) : Calls Tryz.prog 42 #[s3 k g h] w fun e w' => e = .returned (.bool b) ∧ Below w.heap.size w w' := by
  subst e; exact sShapeOk_any k g h w
theorem l3Place_z (x y : Int) (b : Bool) (w : World) (e : inB 2560000 x y = b) : Calls Tryz.prog 43 #[vv x y] w fun e w' => e = .returned (.bool b) ∧ Below w.heap.size w w' := by
  subst e; exact l3Place_any x y w
theorem shB_kinds {k g h : Int} (e : shB k g h = true) : (k = 1 ∧ h = 0 ∧ 1 ≤ g ∧ g ≤ 25600) ∨ (k = 2 ∧ 1 ≤ g ∧ g ≤ 25600 ∧ 1 ≤ h ∧ h ≤ 25600) := by
  unfold shB rdB bxB at e; simp only [Bool.or_eq_true, decide_eq_true_eq] at e; omega
end Go.Proofs.YtejminehbnebmaaGreat
namespace Go.Proofs.YtejminehbnebmaaGreat
open Go.RowKit
set_option linter.unusedVariables false
set_option linter.unusedSimpArgs false
/-- how the bodies of rows i and k touch -/
def tcH (C : Nat → Nat → Int) (i k : Nat) : (Int × Int × Int) × Bool := toT (C 1 i) (C 2 i) (C 3 i) (C 4 i) (C 5 i) (C 1 k) (C 2 k) (C 3 k) (C 4 k) (C 5 k)
def conB (C : Nat → Nat → Int) (i k : Nat) : Bool := decide (i < k) && (!(decide (C 8 i = 0) && decide (C 8 k = 0)) && (tcH C i k).2)
def conOne (C : Nat → Nat → Int) (i k : Nat) : List Int := if conB C i k = true then [(i : Int), (k : Int), (tcH C i k).1.1, (tcH C i k).1.2.1, (tcH C i k).1.2.2] else []
def conIn (C : Nat → Nat → Int) (i : Nat) : Nat → List Int
  | 0 => []
  | k + 1 => conIn C i k ++ conOne C i k
def conOut (C : Nat → Nat → Int) (n : Nat) : Nat → List Int
  | 0 => []
  | i + 1 => conOut C n i ++ conIn C i n
/-- all contacts of n bodies -/
def conL (C : Nat → Nat → Int) (n : Nat) : List Int := conOut C n n
theorem conOne_len (C : Nat → Nat → Int) (i k : Nat) : ∃ m, (conOne C i k).length = m * 5 ∧ m ≤ 1 := by
  unfold conOne
  split
  · exact ⟨1, rfl, Nat.le_refl _⟩
  · exact ⟨0, rfl, by omega⟩
theorem conIn_len (C : Nat → Nat → Int) (i : Nat) : ∀ k, ∃ m, (conIn C i k).length = m * 5 ∧ m ≤ k
  | 0 => ⟨0, rfl, Nat.le_refl _⟩
  | k + 1 => by
    obtain ⟨m, h1, h2⟩ := conIn_len C i k
    obtain ⟨m', h3, h4⟩ := conOne_len C i k
    exact ⟨m + m', by rw [conIn, List.length_append, h1, h3]; omega, by omega⟩
theorem conOut_len (C : Nat → Nat → Int) (n : Nat) : ∀ i, ∃ m, (conOut C n i).length = m * 5 ∧ m ≤ i * n
  | 0 => ⟨0, rfl, by omega⟩
  | i + 1 => by
    obtain ⟨m, h1, h2⟩ := conOut_len C n i
    obtain ⟨m', h3, h4⟩ := conIn_len C i n
    exact ⟨m + m', by rw [conOut, List.length_append, h1, h3]; omega, by rw [Nat.succ_mul]; omega⟩
theorem conB_ge {C : Nat → Nat → Int} {i k : Nat} (h : k ≤ i) : conB C i k = false := by
  unfold conB
  rw [decide_eq_false (by omega)]
  rfl
theorem conOne_no {C : Nat → Nat → Int} {i k : Nat} (h : conB C i k = false) : conOne C i k = [] := by
  unfold conOne
  rw [h]
  rfl
theorem conOne_yes {C : Nat → Nat → Int} {i k : Nat} {X Y D : Int} (h : conB C i k = true) (e : tcH C i k = ((X, Y, D), true)) : conOne C i k = [(i : Int), (k : Int), X, Y, D] := by
  unfold conOne
  rw [if_pos h, e]
theorem conB_yes {C : Nat → Nat → Int} {i k : Nat} {X Y D : Int} (h : i < k) (hf : ¬ (C 8 i = 0 ∧ C 8 k = 0)) (e : tcH C i k = ((X, Y, D), true)) : conB C i k = true := by
  unfold conB
  rw [e, decide_eq_true h]
  by_cases e1 : C 8 i = 0
  · have e2 : ¬ C 8 k = 0 := fun q => hf ⟨e1, q⟩
    simp [e2]
  · simp [e1]
/-- nothing touches one that does not stand behind -/
theorem conIn_ge {C : Nat → Nat → Int} (i : Nat) : ∀ k, k ≤ i + 1 → conIn C i k = []
  | 0, _ => rfl
  | k + 1, h => by rw [conIn, conIn_ge i k (by omega), conOne_no (conB_ge (by omega))]; rfl
/-- a list of things of k numbers, in a variable at lb; nothing else has changed since w2 -/
structure LsAt (w2 W : World) (lb t k : Nat) (a : Option Addr) (m c : Nat) (l : List Int) : Prop where
  fr : Fr (fun b => b = lb) w2 W
  box : W.cell? ⟨lb, 0, none⟩ = some (.slice a m c)
  nf : W.frozen? ⟨lb, 0, none⟩ = false
  len : l.length = m * k
  own : OwnL W w2.heap.size t k (.slice a m c) m (ofL l)
theorem Fr.sm {X : Nat → Prop} {w2 W W' : World} {B : Nat} (h : Fr X w2 W) (hs : Sm B W W') (hB : w2.heap.size ≤ B) : Fr X w2 W' :=
  ⟨hs.below.os.trans h.os, hs.below.tape.trans h.tape, hs.below.output.trans h.output, Nat.le_trans h.size hs.size, fun k hk hn => (hs.below.block k (by omega)).trans (h.block k hk hn), fun k o hk ho => (hs.below.block k (by have := (Array.getElem?_eq_some_iff.1 hk).1; omega)).trans (h.kind k o hk ho)⟩
theorem LsAt.sm {w2 W W' : World} {B lb t k m c : Nat} {a : Option Addr} {l : List Int} (h : LsAt w2 W lb t k a m c l) (hs : Sm B W W') (hB : w2.heap.size ≤ B) : LsAt w2 W' lb t k a m c l :=
  ⟨h.fr.sm hs hB, hs.cell h.box, hs.frozen h.box h.nf, h.len, h.own.sm hs⟩
theorem LsAt.below {w2 W W' : World} {lb t k m c : Nat} {a : Option Addr} {l : List Int} (h : LsAt w2 W lb t k a m c l) (hs : Below W.heap.size W W') : LsAt w2 W' lb t k a m c l := h.sm (Sm.of_below hs (Nat.le_refl _)) h.fr.size
theorem LsAt.start {w2 : World} {lb t k : Nat} (h : w2.cell? ⟨lb, 0, none⟩ = some (.slice none 0 0)) (hf : w2.frozen? ⟨lb, 0, none⟩ = false) : LsAt w2 w2 lb t k none 0 0 [] :=
  ⟨Fr.refl _ _, h, hf, by simp, OwnL.nil _ _ _ _ _⟩
/-- the list, and what lies below the variable's world -/
theorem LsAt.keeps {w2 W W1 : World} {lb t k m c m' c' : Nat} {a a' : Option Addr} {l : List Int} (h : LsAt w2 W lb t k a m c l) (hlb : lb < w2.heap.size) (hg : W.grownBy W1 (Value.slice a m c).ownBlock) :
    Fr (fun b => b = lb ∨ (Value.slice a m c).ownBlock = some b) W (W1.setCell ⟨lb, 0, none⟩ (.slice a' m' c')) :=
  (Fr.grown hg (fun b hb => .inr hb) h.own.isCells).trans (Fr.setCell (.inl rfl) _)
theorem LsAt.push {w2 W W1 : World} {lb t k m c : Nat} {a a' : Option Addr} {c' : Nat} {l x : List Int} (h : LsAt w2 W lb t k a m c l) (hlb : lb < w2.heap.size) (hx : x.length = k) (hg : W.grownBy W1 (Value.slice a m c).ownBlock)
    (ho : OwnL W1 w2.heap.size t k (.slice a' (m + 1) c') (m + 1) (cat (m * k) (ofL l) (ofL x))) : LsAt w2 (W1.setCell ⟨lb, 0, none⟩ (.slice a' (m + 1) c')) lb t k a' (m + 1) c' (l ++ x) := by
  have hne : ∀ b, (Value.slice a m c).ownBlock = some b → b ≠ lb := fun b hb => by have := (h.own.lt b hb).1; omega
  have hl : lb < W.heap.size := Nat.lt_of_lt_of_le hlb h.fr.size
  have hb1 : W1.heap[lb]? = W.heap[lb]? := hg.block lb hl (fun e => hne lb e.symm rfl)
  refine ⟨(h.fr.trans' (Fr.grown (X := fun b => (Value.slice a m c).ownBlock = some b) hg (fun b hb => hb) h.own.isCells) (fun i hi e => by have := (h.own.lt i e).1; omega)).trans (Fr.setCell (X := fun b => b = lb) rfl _), cset_same ((World.cell?_of_block (a := ⟨lb, 0, none⟩) hb1).trans h.box), ?_, by rw [List.length_append, h.len, hx, Nat.succ_mul], ?_⟩
  · rw [World.frozen?_setCell]; exact (World.frozen?_of_block (a := ⟨lb, 0, none⟩) hb1).trans h.nf
  · rw [← cat_ofL, h.len]
    refine OwnL.frame (X := fun b => b = lb) ho (Fr.setCell (X := fun b => b = lb) rfl _) (fun b hb e => ?_)
    have := (ho.lt b hb).1
    omega
theorem _root_.Go.KeepsFrom.sm {B B' : Nat} {W X X' : World} (h : KeepsFrom B W X) (hs : Sm B' X X') (hB : W.heap.size ≤ B') : KeepsFrom B W X' :=
  ⟨Nat.le_trans h.size hs.size, fun k o hk h0 ho => (hs.below.block k (by have := (Array.getElem?_eq_some_iff.1 h0).1; omega)).trans (h.same k o hk h0 ho)⟩
end Go.Proofs.YtejminehbnebmaaGreat
namespace Go.Proofs.YtejminehbnebmaaGreat
open Go.RowKit
set_option linter.unusedVariables false
set_option linter.unusedSimpArgs false

/-- a ring: meetings of contacts C, the next of them number j -/
structure Rg (w : World) (rb g m c cb : Nat) (C : Nat → Int) (j : Nat) : Prop where
  c0 : w.cell? ⟨rb, 0, none⟩ = some (.slice (some ⟨g, 0, none⟩) m c)
  c1 : w.cell? ⟨rb, 1, none⟩ = some (.int .i64 (j : Int))
  f1 : w.frozen? ⟨rb, 1, none⟩ = false
  cl : ∀ q, q < m → w.cell? ⟨g, q * 7, none⟩ = some (.int .i64 (C (q * 5 + 2))) ∧ w.cell? ⟨g, q * 7 + 1, none⟩ = some (.int .i64 (C (q * 5 + 3))) ∧ w.cell? ⟨g, q * 7 + 2, none⟩ = some (.int .i64 (C (q * 5 + 4))) ∧ w.cell? ⟨g, q * 7 + 3, none⟩ = some (.int .i64 (C (q * 5))) ∧ w.cell? ⟨g, q * 7 + 4, none⟩ = some (.pointer (some ⟨cb, 0, none⟩)) ∧ w.cell? ⟨g, q * 7 + 5, none⟩ = some (.int .i64 (C (q * 5 + 1))) ∧ w.cell? ⟨g, q * 7 + 6, none⟩ = some (.pointer (some ⟨cb, 0, none⟩))
  gl : g < w.heap.size
  rl : rb < w.heap.size
  ne : rb ≠ g
theorem Rg.fr {X : Nat → Prop} {w w' : World} {rb g m c cb : Nat} {C : Nat → Int} {j : Nat} (h : Rg w rb g m c cb C j) (hF : Fr X w w') (h1 : ¬ X rb) (h2 : ¬ X g) : Rg w' rb g m c cb C j :=
  have k := fun o => hF.cell (p := ⟨g, o, none⟩) h.gl h2
  ⟨(hF.cell (p := ⟨rb, 0, none⟩) h.rl h1).trans h.c0, (hF.cell (p := ⟨rb, 1, none⟩) h.rl h1).trans h.c1, (hF.frozen (p := ⟨rb, 1, none⟩) h.rl h1).trans h.f1, fun q hq => by
    obtain ⟨r0, r1, r2, r3, r4, r5, r6⟩ := h.cl q hq
    exact ⟨(k _).trans r0, (k _).trans r1, (k _).trans r2, (k _).trans r3, (k _).trans r4, (k _).trans r5, (k _).trans r6⟩, Nat.lt_of_lt_of_le h.gl hF.size, Nat.lt_of_lt_of_le h.rl hF.size, h.ne⟩
theorem Fr.put {b : Nat} {w w' : World} (h : Fr (fun x => x = b) w w') (o : Nat) (v : Value) : Fr (fun x => x = b) w (w'.setCell ⟨b, o, none⟩ v) := h.trans (Fr.setCell (X := fun x => x = b) rfl v)
theorem Rg.below {w w' : World} {rb g m c cb : Nat} {C : Nat → Int} {j : Nat} (h : Rg w rb g m c cb C j) (hb : Below w.heap.size w w') : Rg w' rb g m c cb C j := h.fr (Fr.of_below (X := fun _ => False) hb) id id
theorem Rg.set {w : World} {rb g m c cb : Nat} {C : Nat → Int} {j : Nat} (h : Rg w rb g m c cb C j) (i : Nat) : Rg (w.setCell ⟨rb, 1, none⟩ (.int .i64 (i : Int))) rb g m c cb C i := by
  have hne := h.ne
  have k : ∀ o, (w.setCell ⟨rb, 1, none⟩ (.int .i64 (i : Int))).cell? ⟨g, o, none⟩ = w.cell? ⟨g, o, none⟩ := fun o => by go_simp
  have c1 := h.c1
  have c0 := h.c0
  have f1 := h.f1
  refine ⟨by go_simp, by go_simp, by go_simp, fun q hq => ?_, by simpa using h.gl, by simpa using h.rl, h.ne⟩
  obtain ⟨r0, r1, r2, r3, r4, r5, r6⟩ := h.cl q hq
  exact ⟨(k _).trans r0, (k _).trans r1, (k _).trans r2, (k _).trans r3, (k _).trans r4, (k _).trans r5, (k _).trans r6⟩

set_option maxRecDepth 20000 in
set_option maxHeartbeats 8000000 in
theorem take_q {w : World} {rb g m c cb j : Nat} {C : Nat → Int} (h : Rg w rb g m c cb C j) (hj : j < m) (hm : m ≤ 1048576) (X Y D A B : Int) (eX : C (j * 5 + 2) = X) (eY : C (j * 5 + 3) = Y) (eD : C (j * 5 + 4) = D) (eA : C (j * 5) = A) (eB : C (j * 5 + 1) = B) :
    Calls Tryz.prog 52 #[.pointer (some ⟨rb, 0, none⟩)] w fun e w' => e = .returned (.agg #[.int .i64 X, .int .i64 Y, .int .i64 D, .int .i64 A, .pointer (some ⟨cb, 0, none⟩), .int .i64 B, .pointer (some ⟨cb, 0, none⟩)]) ∧ Rg w' rb g m c cb C ((j + 1) % m) ∧ Fr (fun b => b = rb) w w' := by
  have hset := cset_map
  obtain ⟨r0, r1, r2, r3, r4, r5, r6⟩ := h.cl j hj
  rw [eX] at r0
  rw [eY] at r1
  rw [eD] at r2
  rw [eA] at r3
  rw [eB] at r5
  clear eX eY eD eA eB
  have c0 := h.c0
  have c1 := h.c1
  have f1 := h.f1
  have gl := h.gl
  have rl := h.rl
  have ne := h.ne
  have hjm : (j : Int) < (m : Int) := by omega
  have hm0 : ¬ ((m : Int) = 0) := by omega
  have hm1 : ¬ (m = 0) := by omega
  obtain ⟨i, ei⟩ : ∃ i : Nat, (j + 1) % m = i := ⟨_, rfl⟩
  have hi : i < m := by rw [← ei]; exact Nat.mod_lt _ (by omega)
  have er : ((j : Int) + 1).tmod (m : Int) = (i : Int) := by rw [← ei, Int.natCast_emod]; exact (Int.tmod_eq_emod_of_nonneg (by omega))
  have w1_ : IntKind.i64.wrap ((j : Int) + 1) = (j : Int) + 1 := i64w (by omega)
  have w2_ : IntKind.i64.wrap (i : Int) = (i : Int) := i64w (by omega)
  rw [ei]
  clear ei
  go_enter Tryz.func52, Tryz.ntmps52
  go_upto_region 1 with fail
  go_cut [3] (fun s wc => ∃ b, s = .pointer (some ⟨b, 0, none⟩) ∧ wc.cell? ⟨b, 0, none⟩ = some (.int .i64 X) ∧ wc.cell? ⟨b, 1, none⟩ = some (.int .i64 Y) ∧ wc.cell? ⟨b, 2, none⟩ = some (.int .i64 D) ∧ wc.cell? ⟨b, 3, none⟩ = some (.int .i64 A) ∧ wc.cell? ⟨b, 4, none⟩ = some (.pointer (some ⟨cb, 0, none⟩)) ∧ wc.cell? ⟨b, 5, none⟩ = some (.int .i64 B) ∧ wc.cell? ⟨b, 6, none⟩ = some (.pointer (some ⟨cb, 0, none⟩)) ∧ w.heap.size < b ∧ b < wc.heap.size ∧ wc.frozen? ⟨w.heap.size, 0, none⟩ = false ∧ wc.frozen? ⟨w.heap.size, 1, none⟩ = false ∧ wc.frozen? ⟨w.heap.size, 2, none⟩ = false ∧ wc.frozen? ⟨w.heap.size, 3, none⟩ = false ∧ wc.frozen? ⟨w.heap.size, 4, none⟩ = false ∧ wc.frozen? ⟨w.heap.size, 5, none⟩ = false ∧ wc.frozen? ⟨w.heap.size, 6, none⟩ = false ∧ wc.cell? ⟨w.heap.size, 0, none⟩ = some (.int .i64 0) ∧ wc.cell? ⟨w.heap.size, 1, none⟩ = some (.int .i64 0) ∧ wc.cell? ⟨w.heap.size, 2, none⟩ = some (.int .i64 0) ∧ wc.cell? ⟨w.heap.size, 3, none⟩ = some (.int .i64 0) ∧ wc.cell? ⟨w.heap.size, 4, none⟩ = some (.pointer none) ∧ wc.cell? ⟨w.heap.size, 5, none⟩ = some (.int .i64 0) ∧ wc.cell? ⟨w.heap.size, 6, none⟩ = some (.pointer none) ∧ Below w.heap.size w wc)
  case first =>
    refine wp_region_held_drew (S := fun w' => w'.cell? ⟨rb, 0, none⟩ = some (.slice (some ⟨g, 0, none⟩) m c) ∧ w'.cell? ⟨rb, 1, none⟩ = some (.int .i64 (j : Int)) ∧ w'.cell? ⟨g, j * 7, none⟩ = some (.int .i64 X) ∧ w'.cell? ⟨g, j * 7 + 1, none⟩ = some (.int .i64 Y) ∧ w'.cell? ⟨g, j * 7 + 2, none⟩ = some (.int .i64 D) ∧ w'.cell? ⟨g, j * 7 + 3, none⟩ = some (.int .i64 A) ∧ w'.cell? ⟨g, j * 7 + 4, none⟩ = some (.pointer (some ⟨cb, 0, none⟩)) ∧ w'.cell? ⟨g, j * 7 + 5, none⟩ = some (.int .i64 B) ∧ w'.cell? ⟨g, j * 7 + 6, none⟩ = some (.pointer (some ⟨cb, 0, none⟩))) (by kernel_rfl) ?_ (fun hHeld => ?_)
    · (try dsimp only)
      (first | (go_simp; done) | (go_keep; done))
    refine tq 0 hHeld ?_
    refine tq 1 hHeld ?_
    refine tq 2 hHeld ?_
    refine tq 3 hHeld ?_
    refine tq 4 hHeld ?_
    refine tq 5 hHeld ?_
    refine tq 6 hHeld ?_
    refine tq 7 hHeld ?_
    refine tq 8 hHeld ?_
    refine tq 9 hHeld ?_
    (refine tc 10 fun K hK => ?_; go_simp; refine tr hK (fun hHeld => ?_); clear hK K)
    (refine tc 11 fun K hK => ?_; go_simp; refine tr hK (fun hHeld => ?_); clear hK K)
    refine wpAnyH_done (by kernel_rfl) ?_ _
    go_wp2_with fail
    go_meet
    exact ⟨_, rfl, (by go_simp), (by go_simp), (by go_simp), (by go_simp), (by go_simp), (by go_simp), (by go_simp), (by first | omega | (simp; done) | (simp; omega)), (by first | omega | (simp; done) | (simp; omega)), (by first | (go_simp; done) | (simp; done)), (by first | (go_simp; done) | (simp; done)), (by first | (go_simp; done) | (simp; done)), (by first | (go_simp; done) | (simp; done)), (by first | (go_simp; done) | (simp; done)), (by first | (go_simp; done) | (simp; done)), (by first | (go_simp; done) | (simp; done)), (by go_simp), (by go_simp), (by go_simp), (by go_simp), (by go_simp), (by go_simp), (by go_simp), bel_a⟩
  case rest =>
  obtain ⟨b, rfl, k0, k1, k2, k3, k4, k5, k6, hb1, hb2, z0, z1, z2, z3, z4, z5, z6, y0, y1, y2, y3, y4, y5, y6, hB⟩ := hcut
  have hR := h.below hB
  have q0 := hR.c0
  have q1 := hR.c1
  have q2 := hR.f1
  have lw : w.heap.size < wc.heap.size := by omega
  clear c0 c1 f1 r0 r1 r2 r3 r4 r5 r6
  have n1 : (rb = b) = False := eq_false (by omega)
  have n2 : (rb = w.heap.size) = False := eq_false (by omega)
  have n3 : (w.heap.size = b) = False := eq_false (by omega)
  have n4 : (b = rb) = False := eq_false (by omega)
  have n5 : (w.heap.size = rb) = False := eq_false (by omega)
  have n6 : (b = w.heap.size) = False := eq_false (by omega)
  go_upto_region 2 with fail
  refine wp_region_held_drew (S := fun w' => w'.cell? ⟨rb, 0, none⟩ = some (.slice (some ⟨g, 0, none⟩) m c)) (by kernel_rfl) ?_ (fun hHeld => ?_)
  · (try dsimp only)
    (first | (go_simp; done) | (go_keep; done))
  refine tq 0 hHeld ?_
  refine tq 1 hHeld ?_
  refine tq 2 hHeld ?_
  refine tq 3 hHeld ?_
  refine tq 6 hHeld ?_
  refine tq 7 hHeld ?_
  refine tq 8 hHeld ?_
  refine tq 9 hHeld ?_
  refine tq 10 hHeld ?_
  (refine tc 4 fun K hK => ?_; go_simp; refine tr hK (fun hHeld => ?_); clear hK K)
  refine tq 5 hHeld ?_
  refine tq 11 hHeld ?_
  refine tq 12 hHeld ?_
  refine tq 13 hHeld ?_
  (refine tc 14 fun K hK => ?_; go_simp; refine tr hK (fun hHeld => ?_); clear hK K)
  refine wpAnyH_done (by kernel_rfl) ?_ _
  skip
  have hS := hR.set i
  have hF : Fr (fun b => b = rb) w (wc.setCell ⟨rb, 1, none⟩ (.int .i64 (i : Int))) := (Fr.of_below (X := fun b => b = rb) hB).trans (Fr.setCell (X := fun b => b = rb) (p := ⟨rb, 1, none⟩) rfl _)
  go_wp2_with fail
  have Y0 : (wc.setCell ⟨rb, 1, none⟩ (.int .i64 (i : Int))).cell? ⟨w.heap.size, 0, none⟩ = some (.int .i64 0) := by go_simp
  have Y1 : (wc.setCell ⟨rb, 1, none⟩ (.int .i64 (i : Int))).cell? ⟨w.heap.size, 1, none⟩ = some (.int .i64 0) := by go_simp
  have Y2 : (wc.setCell ⟨rb, 1, none⟩ (.int .i64 (i : Int))).cell? ⟨w.heap.size, 2, none⟩ = some (.int .i64 0) := by go_simp
  have Y3 : (wc.setCell ⟨rb, 1, none⟩ (.int .i64 (i : Int))).cell? ⟨w.heap.size, 3, none⟩ = some (.int .i64 0) := by go_simp
  have Y4 : (wc.setCell ⟨rb, 1, none⟩ (.int .i64 (i : Int))).cell? ⟨w.heap.size, 4, none⟩ = some (.pointer none) := by go_simp
  have Y5 : (wc.setCell ⟨rb, 1, none⟩ (.int .i64 (i : Int))).cell? ⟨w.heap.size, 5, none⟩ = some (.int .i64 0) := by go_simp
  have Y6 : (wc.setCell ⟨rb, 1, none⟩ (.int .i64 (i : Int))).cell? ⟨w.heap.size, 6, none⟩ = some (.pointer none) := by go_simp
  generalize wc.setCell ⟨rb, 1, none⟩ (.int .i64 (i : Int)) = wy at hS hF Y0 Y1 Y2 Y3 Y4 Y5 Y6 ⊢
  clear hR hB q0 q1 q2 h er w1_ w2_ k0 k1 k2 k3 k4 k5 k6 y0 y1 y2 y3 y4 y5 y6 z0 z1 z2 z3 z4 z5 z6
  have FF : ∀ W', Fr (fun b => b = w.heap.size) wy W' → Rg W' rb g m c cb C i ∧ Fr (fun b => b = rb) w W' := fun W' hQ => ⟨hS.fr hQ (by show ¬ rb = w.heap.size; omega) (by show ¬ g = w.heap.size; omega), hF.trans' hQ (fun i hi e => by omega)⟩
  refine bodyPost_ret (v := .agg #[.int .i64 X, .int .i64 Y, .int .i64 D, .int .i64 A, .pointer (some ⟨cb, 0, none⟩), .int .i64 B, .pointer (some ⟨cb, 0, none⟩)]) ?_ rfl ⟨rfl, FF _ ?_⟩
  · clear FF hS hF
    simp [results, Tryz.results52, go_sem, *]
  · with_reducible exact Fr.drew (((((((Fr.refl _ wy).put 0 _).put 1 _).put 2 _).put 3 _).put 4 _).put 5 _ |>.put 6 _)
end Go.Proofs.YtejminehbnebmaaGreat
namespace Go.Proofs.YtejminehbnebmaaGreat
open Go.RowKit
set_option linter.unusedVariables false
set_option linter.unusedSimpArgs false
def mv7 (cb : Nat) (C : Nat → Int) (q : Nat) : List Value := [.int .i64 (C (q * 5 + 2)), .int .i64 (C (q * 5 + 3)), .int .i64 (C (q * 5 + 4)), .int .i64 (C (q * 5)), .pointer (some ⟨cb, 0, none⟩), .int .i64 (C (q * 5 + 1)), .pointer (some ⟨cb, 0, none⟩)]
def mvs (cb : Nat) (C : Nat → Int) : Nat → List Value
  | 0 => []
  | m + 1 => mvs cb C m ++ mv7 cb C m
theorem mvs_len (cb : Nat) (C : Nat → Int) : ∀ m, (mvs cb C m).length = m * 7
  | 0 => rfl
  | m + 1 => by rw [mvs, List.length_append, mvs_len cb C m]; show m * 7 + 7 = _; omega
theorem mvs_get (cb : Nat) (C : Nat → Int) : ∀ (m q i : Nat), q < m → i < 7 → (mvs cb C m)[q * 7 + i]? = (mv7 cb C q)[i]?
  | 0, q, i, h, _ => absurd h (Nat.not_lt_zero _)
  | m + 1, q, i, h, hi => by
    rw [mvs]
    by_cases e : q = m
    · subst e
      rw [List.getElem?_append_right (by rw [mvs_len]; omega), mvs_len, Nat.add_sub_cancel_left]
    · rw [List.getElem?_append_left (by rw [mvs_len]; omega)]
      exact mvs_get cb C m q i (by omega) hi
def ML (w : World) (base cb : Nat) (v : Value) (C : Nat → Int) (m : Nat) : Prop := w.ownsRow base 88 7 v m (mvs cb C m)
theorem ML.nil (w : World) (base cb : Nat) (C : Nat → Int) : ML w base cb (.slice none 0 0) C 0 := World.ownsRow_nil w base _ _
theorem ML.lt {w : World} {base cb m : Nat} {v : Value} {C : Nat → Int} (h : ML w base cb v C m) : ∀ b, v.ownBlock = some b → base ≤ b ∧ b < w.heap.size := World.ownsRow.lt h
theorem ML.frame {X : Nat → Prop} {w w' : World} {base cb m : Nat} {v : Value} {C : Nat → Int} (h : ML w base cb v C m) (hs : Fr X w w') (hX : ∀ b, v.ownBlock = some b → ¬ X b) : ML w' base cb v C m := by
  refine ⟨h.1, ?_⟩
  rcases h.2 with q | ⟨g, cap, cur, hv, hb, hg, rest⟩
  · exact .inl q
  · exact .inr ⟨g, cap, cur, hv, hb, (hs.block _ (Array.getElem?_eq_some_iff.1 hg).1 (hX g (by rw [hv]; rfl))).trans hg, rest⟩
theorem ML.below {w w' : World} {base cb m : Nat} {v : Value} {C : Nat → Int} (h : ML w base cb v C m) (hb : Below w.heap.size w w') : ML w' base cb v C m := h.frame (X := fun _ => False) (Fr.of_below hb) (fun _ _ h => h)
theorem ML.isCells {w : World} {base cb m : Nat} {v : Value} {C : Nat → Int} (h : ML w base cb v C m) : ∀ b o, v.ownBlock = some b → w.heap[b]? = some o → o.isCells = true := by
  intro b o hb ho
  rcases h.2 with ⟨hv, _⟩ | ⟨g, cap, cur, hv, _, hg, _⟩
  · subst hv; cases hb
  · subst hv
    simp only [Value.ownBlock, Option.some.injEq] at hb
    subst hb
    rw [hg] at ho; cases ho; rfl
theorem ML.is {w : World} {base cb m : Nat} {v : Value} {C : Nat → Int} (h : ML w base cb v C m) : (m = 0 ∧ v = .slice none 0 0) ∨ ∃ g c, v = .slice (some ⟨g, 0, none⟩) m c := by
  rcases h.2 with ⟨hv, e⟩ | ⟨g, cap, cur, hv, _⟩
  · exact .inl ⟨e, hv⟩
  · exact .inr ⟨_, _, hv⟩
theorem ML.rg {w : World} {base cb m g c rb : Nat} {C : Nat → Int} (h : ML w base cb (.slice (some ⟨g, 0, none⟩) m c) C m) (c0 : w.cell? ⟨rb, 0, none⟩ = some (.slice (some ⟨g, 0, none⟩) m c)) (c1 : w.cell? ⟨rb, 1, none⟩ = some (.int .i64 0)) (f1 : w.frozen? ⟨rb, 1, none⟩ = false) (ne : rb ≠ g) : Rg w rb g m c cb C 0 :=
  ⟨c0, c1, f1, fun q hq => by
    have k := fun i (hi : i < 7) => (World.ownsRow.cellAt h (q * 7 + i) (by omega)).trans (mvs_get cb C m q i hq hi)
    exact ⟨k 0 (by omega), k 1 (by omega), k 2 (by omega), k 3 (by omega), k 4 (by omega), k 5 (by omega), k 6 (by omega)⟩, (h.lt g rfl).2, cell_lt (a := ⟨rb, 0, none⟩) c0, ne⟩
abbrev zcMeet : Value := .agg #[.int .i64 0, .int .i64 0, .int .i64 0, .int .i64 0, .pointer none, .int .i64 0, .pointer none]
theorem infoMeet : (Tryz.prog.info? 88).map (fun i => (i.zero, i.size, i.bytes)) = some (some zcMeet, 7, 56) := by kernel_rfl
theorem step_mapp {ops : Array Oper} {o : Oper} {a : Act} {K : Act → World → Prop} {Q : Exit → Act → World → Prop} {E : Prop} {w : World} (hgd : o.guard = none) (s x : Operand) (t : TypeId)
    (ho : o.op = .call { callee := .builtin .append, args := #[s, x], argTypes := #[t, t] })
    (ht : Tryz.prog.underlying t = some (.slice 88))
    (base cb : Nat) (v : Value) (C : Nat → Int) (m : Nat) (hs : a.eval s = v) (h : ML w base cb v C m) (b : Nat) (hx : a.eval x = .slice (some ⟨b, 0, none⟩) 1 1)
    (hn : ∀ i, i < 7 → w.cell? ⟨b, i, none⟩ = (mv7 cb C m)[i]?) (hm : m ≤ 1000) (hbase : base ≤ w.heap.size)
    (hK : ∀ g' c' w', ML w' base cb (.slice (some ⟨g', 0, none⟩) (m + 1) c') C (m + 1) → w.grownBy w' v.ownBlock → K (a.put o.dst (.slice (some ⟨g', 0, none⟩) (m + 1) c')) w') :
    if Region.wanted o (yielded ops a.tmps) = true then Oper.wp Tryz.prog o a w K Q else E := by
  obtain ⟨i, hi, hzz⟩ := Option.map_eq_some_iff.1 infoMeet
  simp only [Prod.mk.injEq] at hzz
  obtain ⟨hz, hsz, hb8⟩ := hzz
  refine step_append_lies w hgd s x t ho base 88 i zcMeet 7 56 ht hi hz hsz hb8 rfl (by decide) v m (mvs cb C m) hs h ⟨b, 0, none⟩ 1 1 (mv7 cb C m) hx rfl ?_ ?_ (by decide) (by unfold maxLen; omega) (by omega) hbase _ rfl ?_
  · intro q u hu
    have hq : q < 7 := by
      have := (List.getElem?_eq_some_iff.1 hu).1
      exact this
    have hadd : (⟨b, 0, none⟩ : Addr).add q = ⟨b, q, none⟩ := by unfold Addr.add; split <;> simp_all
    rw [hadd, hn q hq]; exact hu
  · intro u hu; simp only [mv7, List.mem_cons, List.not_mem_nil, or_false] at hu; rcases hu with rfl | rfl | rfl | rfl | rfl | rfl | rfl <;> rfl
  · intro g' cap' w' r1 r2 r3 r4
    exact hK g' cap' w' r1 r2
end Go.Proofs.YtejminehbnebmaaGreat
namespace Go.Proofs.YtejminehbnebmaaGreat
open Go.RowKit Go.Shelf
set_option linter.unusedVariables false
set_option linter.unusedSimpArgs false
abbrev hdk (cb k : Nat) : Value := .agg #[.int .i64 (k : Int), .pointer (some ⟨cb, 0, none⟩)]
theorem handle_any (cb k : Nat) (w : World) :
    Calls Tryz.prog 51 #[.pointer (some ⟨cb, 0, none⟩), .int .i64 (k : Int)] w fun e w' => e = .returned (hdk cb k) ∧ Below w.heap.size w w' := by
  go_enter Tryz.func51, Tryz.ntmps51
  go_wp2
  exact bodyPost_ret (v := hdk cb k) (by simp [results, Tryz.results51, go_sem, *]) rfl ⟨rfl, by repeat (first | with_reducible apply Below.refl | (with_reducible apply Below.setCell; rotate_left; focus (first | omega | (simp; done) | (simp; omega))) | (with_reducible apply Below.alloc; rotate_left; focus (first | omega | (simp; done) | (simp; omega))))⟩
theorem each_enters : ∀ args w, (callFunc 37 args).run Tryz.prog w = .ok (.enter 37 args) w := enters_of Tryz.func37 (by kernel_rfl) rfl
set_option maxHeartbeats 4000000 in
theorem each_it (cb nn cc : Nat) (ad : Option Addr) (w : World) (hcb : cb < w.heap.size) (hc : w.cell? ⟨cb, 0, none⟩ = some (.slice ad nn cc)) (hn : nn ≤ 1048576) :
    ItC Tryz.prog 37 #[.pointer (some ⟨cb, 0, none⟩)] (fun k => #[hdk cb k]) nn w := by
  intro l J Jx W hbW hJb hJx hY h0
  have hc' : W.cell? ⟨cb, 0, none⟩ = some (.slice ad nn cc) := (hbW.cell (p := ⟨cb, 0, none⟩) hcb).trans hc
  refine callsIn_of_wp Tryz.func37 rfl trivial ?_ rfl
  simp only [Tryz.ntmps37, List.size_toArray, List.length_cons, List.length_nil, Nat.reduceAdd, Nat.reduceSub, Array.replicate_succ, Array.replicate_zero, List.push_toArray, List.append_toArray, List.nil_append, List.cons_append]
  gi_wp2
  gi_loopw [4, 10] (fun _ i wr => ∃ k : Nat, k ≤ nn ∧ i = .int .i64 (k : Int) ∧ J k wr) (fun _ i _ => nn - (intOf i).toNat)
  case atStart => exact ⟨0, Nat.zero_le _, rfl, h0⟩
  case round =>
    obtain ⟨k, hk, rfl, hJ⟩ := hrel
    by_cases hlt : k < nn
    · gi_wp2_with (refine ⟨trivial, rfl, ?_⟩; gi_at_call 51; refine (callsIn_wide.2 (handle_any cb k _)).mono ?_; rintro e w1 ⟨rfl, hb1⟩; have hJ1 := hJb _ _ _ hJ hb1; obtain ⟨fn, tmps, assign, body, hy, hR⟩ := hY k w1 hJ1 hlt)
      refine ⟨rfl, hR.mono ?_⟩
      rintro e w2 (⟨rfl, hJ2⟩ | ⟨rfl, hJx2⟩)
      · gi_wp2
        go_roundw
        case rel => exact ⟨k + 1, by omega, by go_num, hJ2⟩
        case measure => simp [intOf]; omega
      · gi_wp2
        refine bodyPost_ret (results_none rfl _ _ _) rfl ?_
        exact ⟨⟨_, rfl⟩, .inr hJx2⟩
    · gi_wp2
      go_end0
      obtain rfl : k = nn := by omega
      exact ⟨⟨_, rfl⟩, .inl hJ⟩
end Go.Proofs.YtejminehbnebmaaGreat
