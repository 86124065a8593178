/- The contracts of the functions of chapter 2: ways. The contracts of the specification's ways. The contracts of the specification's VecMul, VecLen and VecUnit. The contracts of boxes. The contracts of the specification's boxes. The contracts of the specification's BoxMeets and BoxHas. The contracts of VecMul, VecDot and VecLen. The contract of VecUnit. The contract of VecAdd. The contract of VecSub. The walks of the exact laws of chapter 2. The contracts of spans. What may not be is 0. The contracts of the specification's BoxBoth and BoxNear. The contract of the specification's BoxNear. The contracts of the shapes: what is ok. How two round shapes, and two boxes, touch, by the specification. -/
import Derived.Test.YtceabgnioncneaaGreatB1
import Derived.Deep.QuietTactic
import Derived.BigQuiet
import Derived.Deep.RegionWith
import Derived.Deep.RegionHeld3
import Derived.Deep.DeepCutAuto
namespace Go.Proofs.YtceabgnioncneaaGreat
open Go.RowKit
set_option linter.unusedVariables false

theorem bcell {W w1 : World} (hb : Below W.heap.size W w1) : (∀ b o, b < W.heap.size → w1.cell? ⟨b, o, none⟩ = W.cell? ⟨b, o, none⟩) ∧ (∀ b o, b < W.heap.size → w1.frozen? ⟨b, o, none⟩ = W.frozen? ⟨b, o, none⟩) :=
  ⟨fun b o h => hb.cell (p := ⟨b, o, none⟩) h, fun b o h => hb.frozen (p := ⟨b, o, none⟩) h⟩
theorem blt {W w1 : World} (hb : Below W.heap.size W w1) : ∀ b, b < W.heap.size → b < w1.heap.size := fun b h => Nat.lt_of_lt_of_le h hb.size
theorem belowDrewN {B : Nat} {a w : World} (h : Below B a w) (n : Nat) : Below B a (w.drewN n) := ⟨h.os, h.tape, h.output, h.size, h.block⟩

theorem cset_map (w : World) (a : Addr) (v : Value) : (w.setCell a v).cell? a = (w.cell? a).map fun _ => v := by
  cases h : w.cell? a with
  | some u => rw [cset_same h]; rfl
  | none =>
    simp only [World.cell?, World.setCell, Array.getElem?_modify, if_true] at *
    cases hb : w.heap[a.block]? with
    | none => simp
    | some o =>
      rw [hb] at h
      cases o with
      | cells c t fr =>
        by_cases hs : a.spot.isSome
        · simp [hs]
        · simp [hs] at h ⊢; omega
      | _ => simp

theorem i64w {n : Int} (h : -9223372036854775808 ≤ n ∧ n ≤ 9223372036854775807) : IntKind.i64.wrap n = n := by
  simp [IntKind.wrap, IntKind.bits, IntKind.signed]; omega
/-- how far two ways go together -/
def vdot (x y u v : Int) : Int := fc ((fc x * fc u + fc y * fc v).tdiv 256)
/-- how long a way is -/
def vl (x y : Int) : Int := clampZ 1000000000 (rootZ (x * x + y * y))
/-- a way made as long as 1 -/
def ux (x y : Int) : Int := if vl x y = 0 then 0 else (x * 256).tdiv (vl x y)
def uy (x y : Int) : Int := if vl x y = 0 then 256 else (y * 256).tdiv (vl x y)
theorem vl_bd (x y : Int) : 0 ≤ vl x y ∧ vl x y ≤ 1000000000 := by
  have h := rootZ_nonneg (x * x + y * y)
  have k := clampZ_bd (l := 1000000000) (rootZ (x * x + y * y)) (by decide)
  refine ⟨?_, k.2⟩
  unfold vl clampZ; repeat' split
  all_goals omega
theorem sq_bd {x y : Int} (hx : -1000000000 ≤ x ∧ x ≤ 1000000000) (hy : -1000000000 ≤ y ∧ y ≤ 1000000000) : 0 ≤ x * x + y * y ∧ x * x + y * y ≤ 2000000000000000000 := by
  have p := mul_bd hx hx
  have q := mul_bd hy hy
  have p0 : 0 ≤ x * x := by rcases Int.le_total 0 x with h | h; exact Int.mul_nonneg h h; exact Int.mul_nonneg_of_nonpos_of_nonpos h h
  have q0 : 0 ≤ y * y := by rcases Int.le_total 0 y with h | h; exact Int.mul_nonneg h h; exact Int.mul_nonneg_of_nonpos_of_nonpos h h
  omega

abbrev vv (x y : Int) : Value := .agg #[.int .i64 x, .int .i64 y]

theorem wayOf_any (x y : Int) (w : World) :
    Calls Tryz.prog 108 #[vv x y] w fun e w' => e = .returned (vv x y) ∧ Below w.heap.size w w' := by
  have hset := cset_map
  go_enter Tryz.func108, Tryz.ntmps108
  go_wp2
  exact bodyPost_ret (v := vv x y) (by simp [results, Tryz.results108, go_sem]) rfl ⟨rfl, by repeat (first | with_reducible apply Below.refl | (with_reducible apply Below.setCell; rotate_left; focus (first | omega | (simp; done) | (simp; omega))) | (with_reducible apply Below.alloc; rotate_left; focus (first | omega | (simp; done) | (simp; omega))) | with_reducible apply Below.drew | with_reducible apply belowDrewN | (with_reducible apply Below.trans; rotate_left; with_reducible apply Below.mono; with_reducible assumption; focus (first | omega | (simp; done) | (simp; omega))))⟩

theorem vec_any (x y : Int) (w : World) :
    Calls Tryz.prog 87 #[vv x y] w fun e w' => e = .returned (vv x y) ∧ Below w.heap.size w w' := by
  have hset := cset_map
  go_enter Tryz.func87, Tryz.ntmps87
  go_wp2
  exact bodyPost_ret (v := vv x y) (by simp [results, Tryz.results87, go_sem]) rfl ⟨rfl, by repeat (first | with_reducible apply Below.refl | (with_reducible apply Below.setCell; rotate_left; focus (first | omega | (simp; done) | (simp; omega))) | (with_reducible apply Below.alloc; rotate_left; focus (first | omega | (simp; done) | (simp; omega))) | with_reducible apply Below.drew | with_reducible apply belowDrewN | (with_reducible apply Below.trans; rotate_left; with_reducible apply Below.mono; with_reducible assumption; focus (first | omega | (simp; done) | (simp; omega))))⟩

theorem plus_any (x y u v : Int) (w : World) (hx : -4000000000 ≤ x ∧ x ≤ 4000000000) (hy : -4000000000 ≤ y ∧ y ≤ 4000000000) (hu : -4000000000 ≤ u ∧ u ≤ 4000000000) (hv : -4000000000 ≤ v ∧ v ≤ 4000000000) :
    Calls Tryz.prog 132 #[vv x y, vv u v] w fun e w' => e = .returned (vv (x + u) (y + v)) ∧ Below w.heap.size w w' := by
  have hset := cset_map
  go_enter Tryz.func132, Tryz.ntmps132
  go_wp2
  exact bodyPost_ret (v := vv (x + u) (y + v)) (by simp [results, Tryz.results132, go_sem]) rfl ⟨rfl, by repeat (first | with_reducible apply Below.refl | (with_reducible apply Below.setCell; rotate_left; focus (first | omega | (simp; done) | (simp; omega))) | (with_reducible apply Below.alloc; rotate_left; focus (first | omega | (simp; done) | (simp; omega))) | with_reducible apply Below.drew | with_reducible apply belowDrewN | (with_reducible apply Below.trans; rotate_left; with_reducible apply Below.mono; with_reducible assumption; focus (first | omega | (simp; done) | (simp; omega))))⟩

theorem less_any (x y u v : Int) (w : World) (hx : -4000000000 ≤ x ∧ x ≤ 4000000000) (hy : -4000000000 ≤ y ∧ y ≤ 4000000000) (hu : -4000000000 ≤ u ∧ u ≤ 4000000000) (hv : -4000000000 ≤ v ∧ v ≤ 4000000000) :
    Calls Tryz.prog 114 #[vv x y, vv u v] w fun e w' => e = .returned (vv (x - u) (y - v)) ∧ Below w.heap.size w w' := by
  have hset := cset_map
  go_enter Tryz.func114, Tryz.ntmps114
  go_wp2
  exact bodyPost_ret (v := vv (x - u) (y - v)) (by simp [results, Tryz.results114, go_sem]) rfl ⟨rfl, by repeat (first | with_reducible apply Below.refl | (with_reducible apply Below.setCell; rotate_left; focus (first | omega | (simp; done) | (simp; omega))) | (with_reducible apply Below.alloc; rotate_left; focus (first | omega | (simp; done) | (simp; omega))) | with_reducible apply Below.drew | with_reducible apply belowDrewN | (with_reducible apply Below.trans; rotate_left; with_reducible apply Below.mono; with_reducible assumption; focus (first | omega | (simp; done) | (simp; omega))))⟩

theorem products_any (x y u v : Int) (w : World) (hx : -1500000000 ≤ x ∧ x ≤ 1500000000) (hy : -1500000000 ≤ y ∧ y ≤ 1500000000) (hu : -1500000000 ≤ u ∧ u ≤ 1500000000) (hv : -1500000000 ≤ v ∧ v ≤ 1500000000) :
    Calls Tryz.prog 122 #[vv x y, vv u v] w fun e w' => e = .returned (.int .i64 (x * u + y * v)) ∧ Below w.heap.size w w' := by
  have p := mul_bd (a := x) (b := u) (A := 1500000000) (B := 1500000000) hx hu
  have q := mul_bd (a := y) (b := v) (A := 1500000000) (B := 1500000000) hy hv
  have hset := cset_map
  go_enter Tryz.func122, Tryz.ntmps122
  go_wp2
  go_ret
  exact ⟨rfl, by repeat (first | with_reducible apply Below.refl | (with_reducible apply Below.setCell; rotate_left; focus (first | omega | (simp; done) | (simp; omega))) | (with_reducible apply Below.alloc; rotate_left; focus (first | omega | (simp; done) | (simp; omega))) | with_reducible apply Below.drew | with_reducible apply belowDrewN | (with_reducible apply Below.trans; rotate_left; with_reducible apply Below.mono; with_reducible assumption; focus (first | omega | (simp; done) | (simp; omega))))⟩

def vokB (x y : Int) : Bool := decide (-1000000000 ≤ x ∧ x ≤ 1000000000 ∧ -1000000000 ≤ y ∧ y ≤ 1000000000)
def inB (l x y : Int) : Bool := decide (-l ≤ x ∧ x ≤ l ∧ -l ≤ y ∧ y ≤ l)
theorem within_any (n l : Int) (w : World) (h0 : 0 ≤ l) (h1 : l ≤ 4000000000) :
    Calls Tryz.prog 98 #[.int .i64 n, .int .i64 l] w fun e w' => e = .returned (.bool (decide (-l ≤ n ∧ n ≤ l))) ∧ w' = w := by
  go_enter Tryz.func98, Tryz.ntmps98
  go_wp2
  all_goals
    go_ret
    refine ⟨ret_bool ?_, rfl⟩
    first | (simp; omega) | (simp; done)
theorem within2_any (x y l : Int) (w : World) (h0 : 0 ≤ l) (h1 : l ≤ 4000000000) :
    Calls Tryz.prog 79 #[vv x y, .int .i64 l] w fun e w' => e = .returned (.bool (inB l x y)) ∧ Below w.heap.size w w' := by
  go_enter Tryz.func79, Tryz.ntmps79
  go_wp2_with (go_at_call 98; refine (within_any _ _ _ h0 h1).mono ?_; rintro e w' ⟨rfl, rfl⟩)

  all_goals
    go_ret
    refine ⟨ret_bool ?_, by repeat (first | with_reducible apply Below.refl | (with_reducible apply Below.setCell; rotate_left; focus (first | omega | (simp; done) | (simp; omega))) | (with_reducible apply Below.alloc; rotate_left; focus (first | omega | (simp; done) | (simp; omega))) | with_reducible apply Below.drew | with_reducible apply belowDrewN | (with_reducible apply Below.trans; rotate_left; with_reducible apply Below.mono; with_reducible assumption; focus (first | omega | (simp; done) | (simp; omega))))⟩
    unfold inB
    first | (simp; omega) | (simp [*]; done) | (simp at *; omega)
end Go.Proofs.YtceabgnioncneaaGreat
namespace Go.Proofs.YtceabgnioncneaaGreat
open Go.RowKit
set_option linter.unusedVariables false
set_option linter.unusedSimpArgs false

set_option maxHeartbeats 1000000 in
theorem l2Clamp_any (x y : Int) (w : World) :
    Calls Tryz.prog 102 #[vv x y] w fun e w' => e = .returned (vv (fc x) (fc y)) ∧ Below w.heap.size w w' := by
  have hset := cset_map
  go_enter Tryz.func102, Tryz.ntmps102
  go_wp2
  go_region_with (go_at_call 103; refine (sFixClamp_any _ _).mono ?_; rintro e w' ⟨rfl, rfl⟩)
  all_goals
    go_wp2
    exact bodyPost_ret (v := vv (fc x) (fc y)) (by simp [results, Tryz.results102, go_sem, *]) rfl ⟨rfl, by repeat (first | with_reducible apply Below.refl | (with_reducible apply Below.setCell; rotate_left; focus (first | omega | (simp; done) | (simp; omega))) | (with_reducible apply Below.alloc; rotate_left; focus (first | omega | (simp; done) | (simp; omega))) | with_reducible apply Below.drew | with_reducible apply belowDrewN | (with_reducible apply Below.trans; rotate_left; with_reducible apply Below.mono; with_reducible assumption; focus (first | omega | (simp; done) | (simp; omega))))⟩

theorem l1In_any (n l h : Int) (w : World) :
    Calls Tryz.prog 65 #[.int .i64 n, .int .i64 l, .int .i64 h] w fun e w' => e = .returned (.bool (decide (l ≤ n ∧ n ≤ h))) ∧ w' = w := by
  go_enter Tryz.func65, Tryz.ntmps65
  go_wp2
  all_goals
    go_ret
    refine ⟨ret_bool ?_, rfl⟩
    first | (simp; omega) | (simp; done)

end Go.Proofs.YtceabgnioncneaaGreat
namespace Go.Proofs.YtceabgnioncneaaGreat
open Go.RowKit
set_option linter.unusedVariables false
set_option linter.unusedSimpArgs false

theorem l2Square_any (x y : Int) (w : World) (hx : -1500000000 ≤ x ∧ x ≤ 1500000000) (hy : -1500000000 ≤ y ∧ y ≤ 1500000000) :
    Calls Tryz.prog 91 #[vv x y] w fun e w' => e = .returned (.int .i64 (x * x + y * y)) ∧ Below w.heap.size w w' := by
  have p := mul_bd (a := x) (b := x) (A := 1500000000) (B := 1500000000) hx hx
  have q := mul_bd (a := y) (b := y) (A := 1500000000) (B := 1500000000) hy hy
  have hset := cset_map
  go_enter Tryz.func91, Tryz.ntmps91
  go_wp2
  go_ret
  exact ⟨rfl, by repeat (first | with_reducible apply Below.refl | (with_reducible apply Below.setCell; rotate_left; focus (first | omega | (simp; done) | (simp; omega))) | (with_reducible apply Below.alloc; rotate_left; focus (first | omega | (simp; done) | (simp; omega))) | with_reducible apply Below.drew | with_reducible apply belowDrewN | (with_reducible apply Below.trans; rotate_left; with_reducible apply Below.mono; with_reducible assumption; focus (first | omega | (simp; done) | (simp; omega))))⟩

set_option maxHeartbeats 1000000 in
theorem sVecLen_any (x y : Int) (w : World) :
    Calls Tryz.prog 93 #[vv x y] w fun e w' => e = .returned (.int .i64 (vl (fc x) (fc y))) ∧ Below w.heap.size w w' := by
  have hx := fc_bd x
  have hy := fc_bd y
  have hs := sq_bd hx hy
  have hset := cset_map
  go_enter Tryz.func93, Tryz.ntmps93
  go_wp2_with (first
    | (go_at_call 102; refine (l2Clamp_any _ _ _).mono ?_; rintro e w1 ⟨rfl, hb1⟩; obtain ⟨hc1, hf1⟩ := bcell hb1; have hz1 := hb1.size; (try simp at hz1); have hq1x0a : w.heap.size < w1.heap.size := (by omega))
    | (go_at_call 91; refine (l2Square_any _ _ _ (by omega) (by omega)).mono ?_; rintro e w2 ⟨rfl, hb2⟩; obtain ⟨hc2, hf2⟩ := bcell hb2; have hz2 := hb2.size; (try simp at hz2); have hq2x0a : w.heap.size < w2.heap.size := (by omega))
    | (go_at_call 104; refine (l1Root_any _ _ (by omega) (by omega)).mono ?_; rintro e w' ⟨rfl, rfl⟩)
    | (go_at_call 103; refine (sFixClamp_any _ _).mono ?_; rintro e w' ⟨rfl, rfl⟩))
  go_ret
  exact ⟨rfl, by repeat (first | with_reducible apply Below.refl | (with_reducible apply Below.setCell; rotate_left; focus (first | omega | (simp; done) | (simp; omega))) | (with_reducible apply Below.alloc; rotate_left; focus (first | omega | (simp; done) | (simp; omega))) | with_reducible apply Below.drew | with_reducible apply belowDrewN | (with_reducible apply Below.trans; rotate_left; with_reducible apply Below.mono; with_reducible assumption; focus (first | omega | (simp; done) | (simp; omega))))⟩

set_option maxHeartbeats 2000000 in
theorem sVecUnit_any (x y : Int) (w : World) :
    Calls Tryz.prog 92 #[vv x y] w fun e w' => e = .returned (vv (ux (fc x) (fc y)) (uy (fc x) (fc y))) ∧ Below w.heap.size w w' := by
  have hx := fc_bd x
  have hy := fc_bd y
  have hl := vl_bd (fc x) (fc y)
  have f1 := fc_fc x
  have f2 := fc_fc y
  by_cases h0 : vl (fc x) (fc y) = 0
  · have e1 : ux (fc x) (fc y) = 0 := if_pos h0
    have e2 : uy (fc x) (fc y) = 256 := if_pos h0
    have hset := cset_map
    go_enter Tryz.func92, Tryz.ntmps92
    go_wp2_with (first
    | (go_at_call 102; refine (l2Clamp_any _ _ _).mono ?_; rintro e w1 ⟨rfl, hb1⟩; obtain ⟨hc1, hf1⟩ := bcell hb1; have hz1 := hb1.size; (try simp at hz1); have hq1x0a : w.heap.size < w1.heap.size := (by omega); have hq1x1a : w.heap.size + 1 < w1.heap.size := (by omega))
    | (go_at_call 93; refine (sVecLen_any _ _ _).mono ?_; rintro e w6 ⟨rfl, hb6⟩; obtain ⟨hc6, hf6⟩ := bcell hb6; have hz6 := hb6.size; (try simp at hz6); have hq6x0a : w.heap.size < w6.heap.size := (by omega); have hq6x1a : w.heap.size + 1 < w6.heap.size := (by omega)))
    exact bodyPost_ret (v := vv 0 256) (by simp [results, Tryz.results92, go_sem, *]) rfl ⟨by rw [e1, e2], by repeat (first | with_reducible apply Below.refl | (with_reducible apply Below.setCell; rotate_left; focus (first | omega | (simp; done) | (simp; omega))) | (with_reducible apply Below.alloc; rotate_left; focus (first | omega | (simp; done) | (simp; omega))) | with_reducible apply Below.drew | with_reducible apply belowDrewN | (with_reducible apply Below.trans; rotate_left; with_reducible apply Below.mono; with_reducible assumption; focus (first | omega | (simp; done) | (simp; omega))))⟩
  · have t1 := w64 (n := (fc x * 256).tdiv (vl (fc x) (fc y))) (by have := tdiv_bd (x := fc x * 256) (B := 256000000000) (vl (fc x) (fc y)) (by omega); omega)
    have t2 := w64 (n := (fc y * 256).tdiv (vl (fc x) (fc y))) (by have := tdiv_bd (x := fc y * 256) (B := 256000000000) (vl (fc x) (fc y)) (by omega); omega)
    have s1 := i64w (n := (fc x * 256).tdiv (vl (fc x) (fc y))) (by have := tdiv_bd (x := fc x * 256) (B := 256000000000) (vl (fc x) (fc y)) (by omega); omega)
    have s2 := i64w (n := (fc y * 256).tdiv (vl (fc x) (fc y))) (by have := tdiv_bd (x := fc y * 256) (B := 256000000000) (vl (fc x) (fc y)) (by omega); omega)
    have E1 : Hid (ux (fc x) (fc y) = (fc x * 256).tdiv (vl (fc x) (fc y))) := if_neg h0
    have E2 : Hid (uy (fc x) (fc y) = (fc y * 256).tdiv (vl (fc x) (fc y))) := if_neg h0
    have hset := cset_map
    go_enter Tryz.func92, Tryz.ntmps92
    go_wp2_with (first
    | (go_at_call 102; refine (l2Clamp_any _ _ _).mono ?_; rintro e w1 ⟨rfl, hb1⟩; obtain ⟨hc1, hf1⟩ := bcell hb1; have hz1 := hb1.size; (try simp at hz1); have hq1x0a : w.heap.size < w1.heap.size := (by omega); have hq1x1a : w.heap.size + 1 < w1.heap.size := (by omega))
    | (go_at_call 93; refine (sVecLen_any _ _ _).mono ?_; rintro e w6 ⟨rfl, hb6⟩; obtain ⟨hc6, hf6⟩ := bcell hb6; have hz6 := hb6.size; (try simp at hz6); have hq6x0a : w.heap.size < w6.heap.size := (by omega); have hq6x1a : w.heap.size + 1 < w6.heap.size := (by omega)))
    go_region
    all_goals
      go_wp2
      exact bodyPost_ret (v := vv ((fc x * 256).tdiv (vl (fc x) (fc y))) ((fc y * 256).tdiv (vl (fc x) (fc y)))) (by simp [results, Tryz.results92, go_sem, *]) rfl ⟨by rw [E1.out, E2.out], by repeat (first | with_reducible apply Below.refl | (with_reducible apply Below.setCell; rotate_left; focus (first | omega | (simp; done) | (simp; omega))) | (with_reducible apply Below.alloc; rotate_left; focus (first | omega | (simp; done) | (simp; omega))) | with_reducible apply Below.drew | with_reducible apply belowDrewN | (with_reducible apply Below.trans; rotate_left; with_reducible apply Below.mono; with_reducible assumption; focus (first | omega | (simp; done) | (simp; omega))))⟩

end Go.Proofs.YtceabgnioncneaaGreat
namespace Go.Proofs.YtceabgnioncneaaGreat
open Go.RowKit
set_option linter.unusedVariables false
set_option linter.unusedSimpArgs false

abbrev b4 (a b c d : Int) : Value := .agg #[.int .i64 a, .int .i64 b, .int .i64 c, .int .i64 d]
/-- none greater -/
def leB (x y u v : Int) : Bool := decide (x ≤ u ∧ y ≤ v)
/-- whether a box is ok -/
def bokB (a b c d : Int) : Bool := vokB a b && (vokB c d && leB a b c d)

theorem noneGreater_any (x y u v : Int) (w : World) :
    Calls Tryz.prog 127 #[vv x y, vv u v] w fun e w' => e = .returned (.bool (leB x y u v)) ∧ Below w.heap.size w w' := by
  have hset := cset_map
  go_enter Tryz.func127, Tryz.ntmps127
  go_wp2
  all_goals
    go_ret
    refine ⟨ret_bool ?_, by repeat (first | with_reducible apply Below.refl | (with_reducible apply Below.setCell; rotate_left; focus (first | omega | (simp; done) | (simp; omega))) | (with_reducible apply Below.alloc; rotate_left; focus (first | omega | (simp; done) | (simp; omega))) | with_reducible apply Below.drew | with_reducible apply belowDrewN | (with_reducible apply Below.trans; rotate_left; with_reducible apply Below.mono; with_reducible assumption; focus (first | omega | (simp; done) | (simp; omega))))⟩
    unfold leB
    first | (simp; done) | (simp; omega) | (simp at *; omega)

end Go.Proofs.YtceabgnioncneaaGreat
namespace Go.Proofs.YtceabgnioncneaaGreat
open Go.RowKit
set_option linter.unusedVariables false
set_option linter.unusedSimpArgs false

end Go.Proofs.YtceabgnioncneaaGreat
namespace Go.Proofs.YtceabgnioncneaaGreat
open Go.RowKit
set_option linter.unusedVariables false
set_option linter.unusedSimpArgs false

def ptB (a b c d x y : Int) : Bool := decide ((a ≤ x ∧ x ≤ c) ∧ (b ≤ y ∧ y ≤ d))
set_option maxHeartbeats 1000000 in
theorem l3Meets_any (a b c d r s t u : Int) (w : World) :
    Calls Tryz.prog 94 #[b4 a b c d, b4 r s t u] w fun e w' => e = .returned (.bool (leB a b t u && leB r s c d)) ∧ Below w.heap.size w w' := by
  have hset := cset_map
  go_enter Tryz.func94, Tryz.ntmps94
  go_wp2
  all_goals
    go_ret
    refine ⟨ret_bool ?_, by repeat (first | with_reducible apply Below.refl | (with_reducible apply Below.setCell; rotate_left; focus (first | omega | (simp; done) | (simp; omega))) | (with_reducible apply Below.alloc; rotate_left; focus (first | omega | (simp; done) | (simp; omega))) | with_reducible apply Below.drew | with_reducible apply belowDrewN | (with_reducible apply Below.trans; rotate_left; with_reducible apply Below.mono; with_reducible assumption; focus (first | omega | (simp; done) | (simp; omega))))⟩
    unfold leB
    first | (simp [*]; done) | (simp at *; omega) | (simp [*]; omega)

set_option maxHeartbeats 1000000 in
theorem l3Point_any (a b c d x y : Int) (w : World) :
    Calls Tryz.prog 95 #[b4 a b c d, vv x y] w fun e w' => e = .returned (.bool (ptB a b c d x y)) ∧ Below w.heap.size w w' := by
  have hset := cset_map
  go_enter Tryz.func95, Tryz.ntmps95
  go_wp2_with (go_at_call 65; refine (l1In_any _ _ _ _).mono ?_; rintro e w' ⟨rfl, rfl⟩)
  all_goals
    go_ret
    refine ⟨ret_bool ?_, by repeat (first | with_reducible apply Below.refl | (with_reducible apply Below.setCell; rotate_left; focus (first | omega | (simp; done) | (simp; omega))) | (with_reducible apply Below.alloc; rotate_left; focus (first | omega | (simp; done) | (simp; omega))) | with_reducible apply Below.drew | with_reducible apply belowDrewN | (with_reducible apply Below.trans; rotate_left; with_reducible apply Below.mono; with_reducible assumption; focus (first | omega | (simp; done) | (simp; omega))))⟩
    unfold ptB
    first | (simp [*]; done) | (simp at *; omega) | (simp [*]; omega)

end Go.Proofs.YtceabgnioncneaaGreat
namespace Go.Proofs.YtceabgnioncneaaGreat
open Go.RowKit
set_option linter.unusedVariables false
set_option linter.unusedSimpArgs false

set_option maxHeartbeats 1000000 in
theorem length_any (x y : Int) (w : World) (hx : -1000000000 ≤ x ∧ x ≤ 1000000000) (hy : -1000000000 ≤ y ∧ y ≤ 1000000000) :
    Calls Tryz.prog 124 #[vv x y] w fun e w' => e = .returned (.int .i64 (vl x y)) ∧ Below w.heap.size w w' := by
  have hs := sq_bd hx hy
  have hset := cset_map
  go_enter Tryz.func124, Tryz.ntmps124
  go_wp2_with (first
    | (go_at_call 122; refine (products_any _ _ _ _ _ (by omega) (by omega) (by omega) (by omega)).mono ?_; rintro e w2 ⟨rfl, hb2⟩; obtain ⟨hc2, hf2⟩ := bcell hb2; have hz2 := hb2.size; (try simp at hz2); have hq2x0a : w.heap.size < w2.heap.size := (by omega))
    | (go_at_call 130; refine (root_any _ _ (by omega)).mono ?_; rintro e w5 ⟨rfl, hb5⟩; obtain ⟨hc5, hf5⟩ := bcell hb5; have hz5 := hb5.size; (try simp at hz5); have hq5x0a : w.heap.size < w5.heap.size := (by omega))
    | (go_at_call 131; refine (held_any _ _ _ (by omega) (by omega)).mono ?_; rintro e w' ⟨rfl, rfl⟩))
  go_ret
  exact ⟨rfl, by repeat (first | with_reducible apply Below.refl | (with_reducible apply Below.setCell; rotate_left; focus (first | omega | (simp; done) | (simp; omega))) | (with_reducible apply Below.alloc; rotate_left; focus (first | omega | (simp; done) | (simp; omega))) | with_reducible apply Below.drew | with_reducible apply belowDrewN | (with_reducible apply Below.trans; rotate_left; with_reducible apply Below.mono; with_reducible assumption; focus (first | omega | (simp; done) | (simp; omega))))⟩

end Go.Proofs.YtceabgnioncneaaGreat
namespace Go.Proofs.YtceabgnioncneaaGreat
open Go.RowKit
set_option linter.unusedVariables false
set_option linter.unusedSimpArgs false

set_option maxHeartbeats 2000000 in
theorem unit_any (x y : Int) (w : World) (hx : -1000000000 ≤ x ∧ x ≤ 1000000000) (hy : -1000000000 ≤ y ∧ y ≤ 1000000000) :
    Calls Tryz.prog 123 #[vv x y] w fun e w' => e = .returned (vv (ux x y) (uy x y)) ∧ Below w.heap.size w w' := by
  have hl := vl_bd x y
  by_cases h0 : vl x y = 0
  · have e1 : ux x y = 0 := if_pos h0
    have e2 : uy x y = 256 := if_pos h0
    have hset := cset_map
    go_enter Tryz.func123, Tryz.ntmps123
    go_wp2_with (go_at_call 124; refine (length_any _ _ _ (by omega) (by omega)).mono ?_; rintro e w6 ⟨rfl, hb6⟩; obtain ⟨hc6, hf6⟩ := bcell hb6; have hz6 := hb6.size; (try simp at hz6); have hq6x0a : w.heap.size < w6.heap.size := (by omega); have hq6x1a : w.heap.size + 1 < w6.heap.size := (by omega))
    exact bodyPost_ret (v := vv 0 256) (by simp [results, Tryz.results123, go_sem, *]) rfl ⟨by rw [e1, e2], by repeat (first | with_reducible apply Below.refl | (with_reducible apply Below.setCell; rotate_left; focus (first | omega | (simp; done) | (simp; omega))) | (with_reducible apply Below.alloc; rotate_left; focus (first | omega | (simp; done) | (simp; omega))) | with_reducible apply Below.drew | with_reducible apply belowDrewN | (with_reducible apply Below.trans; rotate_left; with_reducible apply Below.mono; with_reducible assumption; focus (first | omega | (simp; done) | (simp; omega))))⟩
  · have e1 : ux x y = (x * 256).tdiv (vl x y) := if_neg h0
    have e2 : uy x y = (y * 256).tdiv (vl x y) := if_neg h0
    have t1 := w64 (n := (x * 256).tdiv (vl x y)) (by have := tdiv_bd (x := x * 256) (B := 256000000000) (vl x y) (by omega); omega)
    have t2 := w64 (n := (y * 256).tdiv (vl x y)) (by have := tdiv_bd (x := y * 256) (B := 256000000000) (vl x y) (by omega); omega)
    have s1 := i64w (n := (x * 256).tdiv (vl x y)) (by have := tdiv_bd (x := x * 256) (B := 256000000000) (vl x y) (by omega); omega)
    have s2 := i64w (n := (y * 256).tdiv (vl x y)) (by have := tdiv_bd (x := y * 256) (B := 256000000000) (vl x y) (by omega); omega)
    have E1 : Hid (ux x y = (x * 256).tdiv (vl x y)) := e1
    have E2 : Hid (uy x y = (y * 256).tdiv (vl x y)) := e2
    clear e1 e2
    have hset := cset_map
    go_enter Tryz.func123, Tryz.ntmps123
    go_wp2_with (go_at_call 124; refine (length_any _ _ _ (by omega) (by omega)).mono ?_; rintro e w6 ⟨rfl, hb6⟩; obtain ⟨hc6, hf6⟩ := bcell hb6; have hz6 := hb6.size; (try simp at hz6); have hq6x0a : w.heap.size < w6.heap.size := (by omega); have hq6x1a : w.heap.size + 1 < w6.heap.size := (by omega))
    go_region
    all_goals
      go_wp2
      exact bodyPost_ret (v := vv ((x * 256).tdiv (vl x y)) ((y * 256).tdiv (vl x y))) (by simp [results, Tryz.results123, go_sem, *]) rfl ⟨by rw [E1.out, E2.out], by repeat (first | with_reducible apply Below.refl | (with_reducible apply Below.setCell; rotate_left; focus (first | omega | (simp; done) | (simp; omega))) | (with_reducible apply Below.alloc; rotate_left; focus (first | omega | (simp; done) | (simp; omega))) | with_reducible apply Below.drew | with_reducible apply belowDrewN | (with_reducible apply Below.trans; rotate_left; with_reducible apply Below.mono; with_reducible assumption; focus (first | omega | (simp; done) | (simp; omega))))⟩

end Go.Proofs.YtceabgnioncneaaGreat
namespace Go.Proofs.YtceabgnioncneaaGreat
open Go.RowKit
set_option linter.unusedVariables false
set_option linter.unusedSimpArgs false

end Go.Proofs.YtceabgnioncneaaGreat
namespace Go.Proofs.YtceabgnioncneaaGreat
open Go.RowKit
set_option linter.unusedVariables false
set_option linter.unusedSimpArgs false

end Go.Proofs.YtceabgnioncneaaGreat
namespace Go.Proofs.YtceabgnioncneaaGreat
open Go.RowKit
set_option linter.unusedVariables false
set_option linter.unusedSimpArgs false

theorem toVec_any (x y : Int) (w : World) :
    Calls Tryz.prog 46 #[vv x y] w fun e w' => e = .returned (vv x y) ∧ Below w.heap.size w w' := by
  have hset := cset_map
  go_enter Tryz.func46, Tryz.ntmps46
  go_wp2
  exact bodyPost_ret (v := vv x y) (by simp [results, Tryz.results46, go_sem, *]) rfl ⟨rfl, by repeat (first | with_reducible apply Below.refl | (with_reducible apply Below.setCell; rotate_left; focus (first | omega | (simp; done) | (simp; omega))) | (with_reducible apply Below.alloc; rotate_left; focus (first | omega | (simp; done) | (simp; omega))) | with_reducible apply Below.drew | with_reducible apply belowDrewN | (with_reducible apply Below.trans; rotate_left; with_reducible apply Below.mono; with_reducible assumption; focus (first | omega | (simp; done) | (simp; omega))))⟩

theorem eqVec_same (x y : Int) (w : World) :
    Calls Tryz.prog 55 #[vv x y, vv x y] w fun e w' => e = .returned (.bool true) ∧ Below w.heap.size w w' := by
  have hset := cset_map
  go_enter Tryz.func55, Tryz.ntmps55
  go_wp2
  go_ret
  exact ⟨rfl, by repeat (first | with_reducible apply Below.refl | (with_reducible apply Below.setCell; rotate_left; focus (first | omega | (simp; done) | (simp; omega))) | (with_reducible apply Below.alloc; rotate_left; focus (first | omega | (simp; done) | (simp; omega))) | with_reducible apply Below.drew | with_reducible apply belowDrewN | (with_reducible apply Below.trans; rotate_left; with_reducible apply Below.mono; with_reducible assumption; focus (first | omega | (simp; done) | (simp; omega))))⟩

end Go.Proofs.YtceabgnioncneaaGreat
namespace Go.Proofs.YtceabgnioncneaaGreat
open Go.RowKit
set_option linter.unusedVariables false
set_option linter.unusedSimpArgs false

/-- the lesser, the greater -/
def mn (x y : Int) : Int := if y < x then y else x
def mx (x y : Int) : Int := if x < y then y else x
theorem mn_bd {B x y : Int} (hx : -B ≤ x ∧ x ≤ B) (hy : -B ≤ y ∧ y ≤ B) : -B ≤ mn x y ∧ mn x y ≤ B := by unfold mn; split <;> omega
theorem mx_bd {B x y : Int} (hx : -B ≤ x ∧ x ≤ B) (hy : -B ≤ y ∧ y ≤ B) : -B ≤ mx x y ∧ mx x y ≤ B := by unfold mx; split <;> omega

set_option maxHeartbeats 1000000 in
theorem spanMeets_any (a b c d r s t u : Int) (w : World) :
    Calls Tryz.prog 121 #[b4 a b c d, b4 r s t u] w fun e w' => e = .returned (.bool (leB a b t u && leB r s c d)) ∧ Below w.heap.size w w' := by
  have hset := cset_map
  go_enter Tryz.func121, Tryz.ntmps121
  go_wp2_with (go_at_call 127; refine (noneGreater_any _ _ _ _ _).mono ?_; rintro e w1 ⟨rfl, hb1⟩; obtain ⟨hc1, hf1⟩ := bcell hb1; have hl1 := blt hb1; have hz1 := hb1.size; (try simp only [World.size_drew, World.size_alloc, World.size_setCell] at hc1 hf1 hl1 hz1); (try have hq1x0 : w.heap.size < w1.heap.size := (by omega)); (try have hq1x1 : w.heap.size + 1 < w1.heap.size := (by omega)))
  all_goals
    go_ret
    refine ⟨ret_bool ?_, by repeat (first | with_reducible apply Below.refl | (with_reducible apply Below.setCell; rotate_left; focus (first | omega | (simp; done) | (simp; omega))) | (with_reducible apply Below.alloc; rotate_left; focus (first | omega | (simp; done) | (simp; omega))) | with_reducible apply Below.drew | with_reducible apply belowDrewN | (with_reducible apply Below.trans; rotate_left; with_reducible apply Below.mono; with_reducible assumption; focus (first | omega | (simp; done) | (simp; omega))))⟩
    first | (simp [*]; done) | (simp at *; simp [*]; done) | (simp at *; omega)

set_option maxHeartbeats 1000000 in
theorem spanHas_any (a b c d r s t u : Int) (w : World) :
    Calls Tryz.prog 118 #[b4 a b c d, b4 r s t u] w fun e w' => e = .returned (.bool (leB a b r s && leB t u c d)) ∧ Below w.heap.size w w' := by
  have hset := cset_map
  go_enter Tryz.func118, Tryz.ntmps118
  go_wp2_with (go_at_call 127; refine (noneGreater_any _ _ _ _ _).mono ?_; rintro e w1 ⟨rfl, hb1⟩; obtain ⟨hc1, hf1⟩ := bcell hb1; have hl1 := blt hb1; have hz1 := hb1.size; (try simp only [World.size_drew, World.size_alloc, World.size_setCell] at hc1 hf1 hl1 hz1); (try have hq1x0 : w.heap.size < w1.heap.size := (by omega)); (try have hq1x1 : w.heap.size + 1 < w1.heap.size := (by omega)))
  all_goals
    go_ret
    refine ⟨ret_bool ?_, by repeat (first | with_reducible apply Below.refl | (with_reducible apply Below.setCell; rotate_left; focus (first | omega | (simp; done) | (simp; omega))) | (with_reducible apply Below.alloc; rotate_left; focus (first | omega | (simp; done) | (simp; omega))) | with_reducible apply Below.drew | with_reducible apply belowDrewN | (with_reducible apply Below.trans; rotate_left; with_reducible apply Below.mono; with_reducible assumption; focus (first | omega | (simp; done) | (simp; omega))))⟩
    first | (simp [*]; done) | (simp at *; simp [*]; done) | (simp at *; omega)

set_option maxHeartbeats 1000000 in
theorem least_any (x y u v : Int) (w : World) :
    Calls Tryz.prog 129 #[vv x y, vv u v] w fun e w' => e = .returned (vv (mn x u) (mn y v)) ∧ Below w.heap.size w w' := by
  have hset := cset_map
  go_enter Tryz.func129, Tryz.ntmps129
  go_wp2
  all_goals
    refine bodyPost_ret (v := vv (mn x u) (mn y v)) ?_ rfl ⟨rfl, by repeat (first | with_reducible apply Below.refl | (with_reducible apply Below.setCell; rotate_left; focus (first | omega | (simp; done) | (simp; omega))) | (with_reducible apply Below.alloc; rotate_left; focus (first | omega | (simp; done) | (simp; omega))) | with_reducible apply Below.drew | with_reducible apply belowDrewN | (with_reducible apply Below.trans; rotate_left; with_reducible apply Below.mono; with_reducible assumption; focus (first | omega | (simp; done) | (simp; omega))))⟩
    simp [results, Tryz.results129, go_sem, *]
    try (constructor <;> (unfold mn; split <;> omega))

set_option maxHeartbeats 1000000 in
theorem greatest_any (x y u v : Int) (w : World) :
    Calls Tryz.prog 128 #[vv x y, vv u v] w fun e w' => e = .returned (vv (mx x u) (mx y v)) ∧ Below w.heap.size w w' := by
  have hset := cset_map
  go_enter Tryz.func128, Tryz.ntmps128
  go_wp2
  all_goals
    refine bodyPost_ret (v := vv (mx x u) (mx y v)) ?_ rfl ⟨rfl, by repeat (first | with_reducible apply Below.refl | (with_reducible apply Below.setCell; rotate_left; focus (first | omega | (simp; done) | (simp; omega))) | (with_reducible apply Below.alloc; rotate_left; focus (first | omega | (simp; done) | (simp; omega))) | with_reducible apply Below.drew | with_reducible apply belowDrewN | (with_reducible apply Below.trans; rotate_left; with_reducible apply Below.mono; with_reducible assumption; focus (first | omega | (simp; done) | (simp; omega))))⟩
    simp [results, Tryz.results128, go_sem, *]
    try (constructor <;> (unfold mx; split <;> omega))

end Go.Proofs.YtceabgnioncneaaGreat
namespace Go.Proofs.YtceabgnioncneaaGreat
open Go.RowKit
set_option linter.unusedVariables false
set_option linter.unusedSimpArgs false

/-- a number, or 0 where it may not be -/
def bb (o : Bool) (x : Int) : Int := if o = true then x else 0
theorem bb_t (x : Int) : bb true x = x := rfl
theorem bb_f (x : Int) : bb false x = 0 := rfl

end Go.Proofs.YtceabgnioncneaaGreat
namespace Go.Proofs.YtceabgnioncneaaGreat
open Go.RowKit
set_option linter.unusedVariables false
set_option linter.unusedSimpArgs false

theorem l3Less_any (x y : Int) (w : World) :
    Calls Tryz.prog 56 #[.int .i64 x, .int .i64 y] w fun e w' => e = .returned (.int .i64 (mn x y)) ∧ w' = w := by
  go_enter Tryz.func56, Tryz.ntmps56
  go_wp2
  all_goals
    go_ret
    refine ⟨?_, rfl⟩
    unfold mn
    split <;> first | rfl | (exfalso; omega) | (have hxy : x = y := (by omega); subst hxy; rfl) | (exfalso; simp at *; omega)

theorem l3More_any (x y : Int) (w : World) :
    Calls Tryz.prog 105 #[.int .i64 x, .int .i64 y] w fun e w' => e = .returned (.int .i64 (mx x y)) ∧ w' = w := by
  go_enter Tryz.func105, Tryz.ntmps105
  go_wp2
  all_goals
    go_ret
    refine ⟨?_, rfl⟩
    unfold mx
    split <;> first | rfl | (exfalso; omega) | (have hxy : x = y := (by omega); subst hxy; rfl) | (exfalso; simp at *; omega)

end Go.Proofs.YtceabgnioncneaaGreat
namespace Go.Proofs.YtceabgnioncneaaGreat
open Go.RowKit
set_option linter.unusedVariables false
set_option linter.unusedSimpArgs false

set_option maxHeartbeats 4000000 in
theorem l3Near_any (a b c d x y : Int) (w : World) :
    Calls Tryz.prog 96 #[b4 a b c d, vv x y] w fun e w' => e = .returned (vv (mn (mx x a) c) (mn (mx y b) d)) ∧ Below w.heap.size w w' := by
  have hset := cset_map
  go_enter Tryz.func96, Tryz.ntmps96
  go_wp2
  go_region_held3 (fun w' => w'.cell? ⟨w.heap.size, 0, none⟩ = some (.int .i64 a) ∧ w'.cell? ⟨w.heap.size, 1, none⟩ = some (.int .i64 b) ∧ w'.cell? ⟨w.heap.size, 2, none⟩ = some (.int .i64 c) ∧ w'.cell? ⟨w.heap.size, 3, none⟩ = some (.int .i64 d) ∧ w'.cell? ⟨w.heap.size + 1, 0, none⟩ = some (.int .i64 x) ∧ w'.cell? ⟨w.heap.size + 1, 1, none⟩ = some (.int .i64 y)) (first | (go_simp; done) | (go_keep; done)) (first
    | (go_at_call 56; refine (l3Less_any _ _ _).mono ?_; rintro e w' ⟨rfl, rfl⟩)
    | (go_at_call 105; refine (l3More_any _ _ _).mono ?_; rintro e w' ⟨rfl, rfl⟩))
  all_goals
    go_wp2
    exact bodyPost_ret (v := vv (mn (mx x a) c) (mn (mx y b) d)) (by simp [results, Tryz.results96, go_sem, *]) rfl ⟨rfl, by repeat (first | with_reducible apply Below.refl | (with_reducible apply Below.setCell; rotate_left; focus (first | omega | (simp; done) | (simp; omega))) | (with_reducible apply Below.alloc; rotate_left; focus (first | omega | (simp; done) | (simp; omega))) | with_reducible apply Below.drew | with_reducible apply belowDrewN | (with_reducible apply Below.trans; rotate_left; with_reducible apply Below.mono; with_reducible assumption; focus (first | omega | (simp; done) | (simp; omega))))⟩

end Go.Proofs.YtceabgnioncneaaGreat
namespace Go.Proofs.YtceabgnioncneaaGreat
open Go.RowKit
set_option linter.unusedVariables false
set_option linter.unusedSimpArgs false

def szB (n : Int) : Bool := decide (1 ≤ n ∧ n ≤ 25600)
theorem isSize_any (n : Int) (w : World) :
    Calls Tryz.prog 106 #[.int .i64 n] w fun e w' => e = .returned (.bool (szB n)) ∧ w' = w := by
  go_enter Tryz.func106, Tryz.ntmps106
  go_wp2
  all_goals
    go_ret
    refine ⟨ret_bool ?_, rfl⟩
    unfold szB
    first | (simp; omega) | (simp; done)

/-- whether a shape is ok -/
def rdB (k wd h : Int) : Bool := decide (k = 1 ∧ (1 ≤ wd ∧ wd ≤ 25600) ∧ h = 0)
def bxB (k wd h : Int) : Bool := decide (k = 2 ∧ (1 ≤ wd ∧ wd ≤ 25600) ∧ (1 ≤ h ∧ h ≤ 25600))
def shB (k wd h : Int) : Bool := rdB k wd h || bxB k wd h
abbrev s3 (k wd h : Int) : Value := .agg #[.int .i64 k, .int .i64 wd, .int .i64 h]

theorem figureOf_round (wd : Int) (w : World) (h1 : 1 ≤ wd) (h2 : wd ≤ 25600) :
    Calls Tryz.prog 97 #[s3 1 wd 0] w fun e w' => e = .returned (.tuple #[.iface 150 (.agg #[.int .i64 wd]), .bool true]) ∧ Below w.heap.size w w' := by
  have hs : szB wd = true := by unfold szB; simp; omega
  go_enter Tryz.func97, Tryz.ntmps97
  go_wp2_with (go_at_call 106; refine (isSize_any _ _).mono ?_; rintro e w' ⟨rfl, rfl⟩)
  go_ret2
  exact ⟨rfl, (Below.refl _ _).alloc (Nat.le_refl _) _⟩
theorem figureOf_box (wd h : Int) (w : World) (h1 : 1 ≤ wd) (h2 : wd ≤ 25600) (h3 : 1 ≤ h) (h4 : h ≤ 25600) :
    Calls Tryz.prog 97 #[s3 2 wd h] w fun e w' => e = .returned (.tuple #[.iface 152 (.agg #[.int .i64 wd, .int .i64 h]), .bool true]) ∧ Below w.heap.size w w' := by
  have hs : szB wd = true := by unfold szB; simp; omega
  have hs2 : szB h = true := by unfold szB; simp; omega
  go_enter Tryz.func97, Tryz.ntmps97
  go_wp2_with (go_at_call 106; refine (isSize_any _ _).mono ?_; rintro e w' ⟨rfl, rfl⟩)
  go_ret2
  exact ⟨rfl, (Below.refl _ _).alloc (Nat.le_refl _) _⟩
set_option maxHeartbeats 1000000 in
theorem figureOf_none (k wd h : Int) (w : World) (hn : shB k wd h = false) :
    Calls Tryz.prog 97 #[s3 k wd h] w fun e w' => e = .returned (.tuple #[.nilIface, .bool false]) ∧ Below w.heap.size w w' := by
  have HN : Hid (¬ ((k = 1 ∧ (1 ≤ wd ∧ wd ≤ 25600) ∧ h = 0) ∨ (k = 2 ∧ (1 ≤ wd ∧ wd ≤ 25600) ∧ (1 ≤ h ∧ h ≤ 25600)))) := by
    unfold shB rdB bxB at hn
    simp only [Bool.or_eq_false_iff, decide_eq_false_iff_not] at hn
    rintro (h | h)
    · exact hn.1 h
    · exact hn.2 h
  clear hn
  have hsz : Hid (∀ n, szB n = true → 1 ≤ n ∧ n ≤ 25600) := by intro n hn; unfold szB at hn; simpa using hn
  go_enter Tryz.func97, Tryz.ntmps97
  go_wp2_with (go_at_call 106; refine (isSize_any _ _).mono ?_; rintro e w' ⟨rfl, rfl⟩)
  all_goals
    first
      | (go_ret2; exact ⟨rfl, (Below.refl _ _).alloc (Nat.le_refl _) _⟩)
      | (exfalso; subst k; exact HN.out (.inl ⟨rfl, hsz.out _ ‹_›, by simpa using ‹(h == 0) = true›⟩))
      | (exfalso; subst k; exact HN.out (.inr ⟨rfl, hsz.out _ ‹szB wd = true›, hsz.out _ ‹szB h = true›⟩))

theorem shapeOk_any (k wd h : Int) (w : World) :
    Calls Tryz.prog 76 #[s3 k wd h] w fun e w' => e = .returned (.bool (shB k wd h)) ∧ Below w.heap.size w w' := by
  by_cases hr : rdB k wd h = true
  · have e : shB k wd h = true := by unfold shB; rw [hr]; rfl
    have E : Hid (shB k wd h = true) := e
    clear e
    unfold rdB at hr
    obtain ⟨rfl, ⟨h1, h2⟩, rfl⟩ := of_decide_eq_true hr
    clear hr
    go_enter Tryz.func76, Tryz.ntmps76
    go_wp2_with (go_at_call 97; refine (figureOf_round _ _ h1 h2).mono ?_; rintro e w1 ⟨rfl, hb1⟩)
    go_ret
    exact ⟨ret_bool E.out.symm, ((Below.refl _ _).alloc (Nat.le_refl _) _).trans (hb1.mono (by simp))⟩
  · by_cases hb : bxB k wd h = true
    · have e : shB k wd h = true := by unfold shB; rw [hb]; simp
      have E : Hid (shB k wd h = true) := e
      clear e hr
      unfold bxB at hb
      obtain ⟨rfl, ⟨h1, h2⟩, h3, h4⟩ := of_decide_eq_true hb
      clear hb
      go_enter Tryz.func76, Tryz.ntmps76
      go_wp2_with (go_at_call 97; refine (figureOf_box _ _ _ h1 h2 h3 h4).mono ?_; rintro e w1 ⟨rfl, hb1⟩)
      go_ret
      exact ⟨ret_bool E.out.symm, ((Below.refl _ _).alloc (Nat.le_refl _) _).trans (hb1.mono (by simp))⟩
    · have e : shB k wd h = false := by unfold shB; simp [hr, hb]
      have E : Hid (shB k wd h = false) := e
      clear e hr hb
      go_enter Tryz.func76, Tryz.ntmps76
      go_wp2_with (go_at_call 97; refine (figureOf_none _ _ _ _ E.out).mono ?_; rintro e w1 ⟨rfl, hb1⟩)
      go_ret
      exact ⟨ret_bool E.out.symm, ((Below.refl _ _).alloc (Nat.le_refl _) _).trans (hb1.mono (by simp))⟩

set_option maxHeartbeats 1000000 in
theorem sShapeOk_any (k wd h : Int) (w : World) :
    Calls Tryz.prog 66 #[s3 k wd h] w fun e w' => e = .returned (.bool (shB k wd h)) ∧ Below w.heap.size w w' := by
  go_enter Tryz.func66, Tryz.ntmps66
  go_wp2_with (go_at_call 65; refine (l1In_any _ _ _ _).mono ?_; rintro e w' ⟨rfl, rfl⟩)
  all_goals
    go_ret
    refine ⟨ret_bool ?_, (Below.refl _ _).alloc (Nat.le_refl _) _⟩
    unfold shB rdB bxB
    first | (simp [*]; done) | (simp at *; subst k; simp [*]; done) | (simp at *; subst k; simp [*]; rfl) | (simp at *; subst k; simp; omega) | (simp at *; simp [*]; done)

theorem toShape_any (k wd h : Int) (w : World) :
    Calls Tryz.prog 45 #[s3 k wd h] w fun e w' => e = .returned (s3 k wd h) ∧ Below w.heap.size w w' := by
  have hset := cset_map
  go_enter Tryz.func45, Tryz.ntmps45
  go_wp2
  exact bodyPost_ret (v := s3 k wd h) (by simp [results, Tryz.results45, go_sem, *]) rfl ⟨rfl, by repeat (first | exact Below.refl _ _ | refine Below.setCell ?_ (by first | omega | (simp; done) | (simp; omega)) _ | refine Below.alloc ?_ (by first | omega | (simp; done) | (simp; omega)) _)⟩

end Go.Proofs.YtceabgnioncneaaGreat
namespace Go.Proofs.YtceabgnioncneaaGreat
open Go.RowKit
set_option linter.unusedVariables false
set_option linter.unusedSimpArgs false

/-- how two that are round touch: the way, how deep, and whether they do -/
def rdT (dx dy g : Int) : (Int × Int × Int) × Bool := if dx * dx + dy * dy ≤ g * g then ((ux dx dy, uy dx dy, g - vl dx dy), true) else ((0, 0, 0), false)
/-- the side on which it is least deep -/
def bsT (s0 s1 s2 s3 : Int) : Int × Int × Int :=
  let m1 : Int × Int × Int := if s1 < s0 then (-256, 0, s1) else (256, 0, s0)
  let m2 : Int × Int × Int := if s2 < m1.2.2 then (0, 256, s2) else m1
  if s3 < m2.2.2 then (0, -256, s3) else m2
def bxT (a b c d r s t u : Int) : (Int × Int × Int) × Bool := if (leB a b t u && leB r s c d) = true then (bsT (c - r) (t - a) (d - s) (u - b), true) else ((0, 0, 0), false)

theorem sunit_q (x y X Y : Int) (w : World) (e1 : ux (fc x) (fc y) = X) (e2 : uy (fc x) (fc y) = Y) :
    Calls Tryz.prog 92 #[vv x y] w fun e w' => e = .returned (vv X Y) ∧ Below w.heap.size w w' := by
  subst e1; subst e2; exact sVecUnit_any x y w
theorem slen_q (x y L : Int) (w : World) (e : vl (fc x) (fc y) = L) :
    Calls Tryz.prog 93 #[vv x y] w fun e w' => e = .returned (.int .i64 L) ∧ Below w.heap.size w w' := by
  subst e; exact sVecLen_any x y w
set_option maxHeartbeats 4000000 in
theorem l5Rounds_q (a b x y g X Y D : Int) (K : Bool) (w : World) (qa : -3000000 ≤ a ∧ a ≤ 3000000) (qb : -3000000 ≤ b ∧ b ≤ 3000000) (qx : -3000000 ≤ x ∧ x ≤ 3000000) (qy : -3000000 ≤ y ∧ y ≤ 3000000) (g0 : 0 ≤ g ∧ g ≤ 100000) (e : rdT (x - a) (y - b) g = ((X, Y, D), K)) :
    Calls Tryz.prog 69 #[vv a b, vv x y, .int .i64 g] w fun e w' => e = .returned (.tuple #[s3 X Y D, .bool K]) ∧ Below w.heap.size w w' := by
  have hset := cset_map
  obtain ⟨dx, ex⟩ : ∃ z, x - a = z := ⟨_, rfl⟩
  obtain ⟨dy, ey⟩ : ∃ z, y - b = z := ⟨_, rfl⟩
  have w1 := i64w (n := x - a) (by omega)
  have w2 := i64w (n := y - b) (by omega)
  rw [ex] at e w1
  rw [ey] at e w2
  have m3 := mul_bd (a := g) (b := g) (A := 100000) (B := 100000) (by omega) (by omega)
  have w3 := i64w (n := g * g) (by omega)
  unfold rdT at e
  cases dd : decide (g * g < dx * dx + dy * dy) with
  | true =>
    have hn := of_decide_eq_true dd
    rw [if_neg (by omega)] at e
    cases e
    clear hn m3
    go_enter Tryz.func69, Tryz.ntmps69
    go_wp2_with (go_at_call 91; refine (l2Square_any _ _ _ (by omega) (by omega)).mono ?_; rintro e w1 ⟨rfl, hb1⟩; obtain ⟨hc1, hf1⟩ := bcell hb1; have hz1 := hb1.size; (try simp only [World.size_drew, World.size_alloc, World.size_setCell] at hc1 hf1 hz1); have hk1x0 := fun o => hc1 (w.heap.size) o (by omega); have hj1x0 := fun o => hf1 (w.heap.size) o (by omega); have hq1x0 : w.heap.size < w1.heap.size := (by omega); have hk1x1 := fun o => hc1 (w.heap.size + 1) o (by omega); have hj1x1 := fun o => hf1 (w.heap.size + 1) o (by omega); have hq1x1 : w.heap.size + 1 < w1.heap.size := (by omega); have hk1x2 := fun o => hc1 (w.heap.size + 1 + 1) o (by omega); have hj1x2 := fun o => hf1 (w.heap.size + 1 + 1) o (by omega); have hq1x2 : w.heap.size + 1 + 1 < w1.heap.size := (by omega); have hk1x3 := fun o => hc1 (w.heap.size + 1 + 1 + 1) o (by omega); have hj1x3 := fun o => hf1 (w.heap.size + 1 + 1 + 1) o (by omega); have hq1x3 : w.heap.size + 1 + 1 + 1 < w1.heap.size := (by omega); clear hc1 hf1)
    exact bodyPost_ret (v := .tuple #[s3 0 0 0, .bool false]) (by simp [results, Tryz.results69, go_sem, *]) rfl ⟨rfl, by repeat (first | with_reducible apply Below.refl | (with_reducible apply Below.setCell; rotate_left; focus (first | omega | (simp; done) | (simp; omega))) | (with_reducible apply Below.alloc; rotate_left; focus (first | omega | (simp; done) | (simp; omega))) | with_reducible apply Below.drew | with_reducible apply belowDrewN | (with_reducible apply Below.trans; rotate_left; with_reducible apply Below.mono; with_reducible assumption; focus (first | omega | (simp; done) | (simp; omega))))⟩
  | false =>
    have hn := of_decide_eq_false dd
    rw [if_pos (by omega)] at e
    obtain ⟨L, eL⟩ : ∃ z, vl dx dy = z := ⟨_, rfl⟩
    have lb := vl_bd dx dy
    rw [eL] at lb
    rw [eL] at e
    simp only [Prod.mk.injEq] at e
    obtain ⟨⟨eX, eY, eD⟩, eK⟩ := e
    subst eD
    subst eK
    have f1 := fc_id (n := dx) (by omega) (by omega)
    have f2 := fc_id (n := dy) (by omega) (by omega)
    have eX : ux (fc dx) (fc dy) = X := by rw [f1, f2]; exact eX
    have eY : uy (fc dx) (fc dy) = Y := by rw [f1, f2]; exact eY
    have eL : vl (fc dx) (fc dy) = L := by rw [f1, f2]; exact eL
    have w4 := i64w (n := g - L) (by omega)
    clear hn m3 f1 f2
    go_enter Tryz.func69, Tryz.ntmps69
    go_upto_region 4 with (go_at_call 91; refine (l2Square_any _ _ _ (by omega) (by omega)).mono ?_; rintro e w1 ⟨rfl, hb1⟩; obtain ⟨hc1, hf1⟩ := bcell hb1; have hz1 := hb1.size; (try simp only [World.size_drew, World.size_alloc, World.size_setCell] at hc1 hf1 hz1); have hk1x0 := fun o => hc1 (w.heap.size) o (by omega); have hj1x0 := fun o => hf1 (w.heap.size) o (by omega); have hq1x0 : w.heap.size < w1.heap.size := (by omega); have hk1x1 := fun o => hc1 (w.heap.size + 1) o (by omega); have hj1x1 := fun o => hf1 (w.heap.size + 1) o (by omega); have hq1x1 : w.heap.size + 1 < w1.heap.size := (by omega); have hk1x2 := fun o => hc1 (w.heap.size + 1 + 1) o (by omega); have hj1x2 := fun o => hf1 (w.heap.size + 1 + 1) o (by omega); have hq1x2 : w.heap.size + 1 + 1 < w1.heap.size := (by omega); have hk1x3 := fun o => hc1 (w.heap.size + 1 + 1 + 1) o (by omega); have hj1x3 := fun o => hf1 (w.heap.size + 1 + 1 + 1) o (by omega); have hq1x3 : w.heap.size + 1 + 1 + 1 < w1.heap.size := (by omega); clear hc1 hf1)
    refine wp_region_held_drew (S := fun w' => w'.cell? ⟨w.heap.size + 1 + 1 + 1, 0, none⟩ = some (.int .i64 dx) ∧ w'.cell? ⟨w.heap.size + 1 + 1 + 1, 1, none⟩ = some (.int .i64 dy)) (by kernel_rfl) ?_ (fun hHeld => ?_)
    · (try dsimp only)
      (first | (go_simp; done) | (go_keep; done))
    (refine wpAnyH_take (i := 0) (oi := { dst := some 27, op := Go.Op.load 47 (Go.Operand.tmp 8), type := 47, pos := "l5_touch.go:11", after := #[], guard := none }) (v := ?_) rfl (by kernel_rfl) (by kernel_rfl) (by kernel_rfl) (fun _ _ _ h => h) (Or.inl ⟨by rfl, ?_⟩) hHeld ?_; rotate_left; (focus ((intro w hSw; (try dsimp only at hSw); go_simp); (try with_reducible rfl); done)); (try simp only [Act.put, List.setIfInBounds_toArray, List.set_cons_zero, List.set_cons_succ]))
    (refine wpAnyH_take (i := 2) (oi := { dst := some 29, op := Go.Op.move (Go.Operand.tmp 2), type := 3, pos := "l5_touch.go:11", after := #[], guard := none }) (v := ?_) rfl (by kernel_rfl) (by kernel_rfl) (by kernel_rfl) (fun _ _ _ h => h) (Or.inl ⟨by rfl, ?_⟩) hHeld ?_; rotate_left; (focus ((intro w hSw; (try dsimp only at hSw); go_simp); (try with_reducible rfl); done)); (try simp only [Act.put, List.setIfInBounds_toArray, List.set_cons_zero, List.set_cons_succ]))
    (refine wpAnyH_take (i := 3) (oi := { dst := some 30, op := Go.Op.load 47 (Go.Operand.tmp 8), type := 47, pos := "l5_touch.go:11", after := #[], guard := none }) (v := ?_) rfl (by kernel_rfl) (by kernel_rfl) (by kernel_rfl) (fun _ _ _ h => h) (Or.inl ⟨by rfl, ?_⟩) hHeld ?_; rotate_left; (focus ((intro w hSw; (try dsimp only at hSw); go_simp); (try with_reducible rfl); done)); (try simp only [Act.put, List.setIfInBounds_toArray, List.set_cons_zero, List.set_cons_succ]))
    (refine wpAnyH_ready (rs := [1]) (by kernel_rfl) (by simp) ?_; refine AllReadyH.cons (o := { dst := some 28, op := Go.Op.call { callee := Go.Callee.value (Go.Operand.func 92), args := #[Go.Operand.tmp 27], argTypes := #[47] }, type := 47, pos := "l5_touch.go:11", after := #[{ on := 0, ground := Go.Ground.data }], guard := none }) rfl (fun K hK => ?_) AllReadyH.nil; go_simp; (go_at_call 92; refine (sunit_q _ _ _ _ _ eX eY).mono ?_; rintro e w2 ⟨rfl, hb2⟩; obtain ⟨hc2, hf2⟩ := bcell hb2; have hz2 := hb2.size; (try simp only [World.size_drew, World.size_alloc, World.size_setCell] at hc2 hf2 hz2); have hk2x0 := fun o => hc2 (w.heap.size) o (by omega); have hj2x0 := fun o => hf2 (w.heap.size) o (by omega); have hq2x0 : w.heap.size < w2.heap.size := (by omega); have hk2x1 := fun o => hc2 (w.heap.size + 1) o (by omega); have hj2x1 := fun o => hf2 (w.heap.size + 1) o (by omega); have hq2x1 : w.heap.size + 1 < w2.heap.size := (by omega); have hk2x2 := fun o => hc2 (w.heap.size + 1 + 1) o (by omega); have hj2x2 := fun o => hf2 (w.heap.size + 1 + 1) o (by omega); have hq2x2 : w.heap.size + 1 + 1 < w2.heap.size := (by omega); have hk2x3 := fun o => hc2 (w.heap.size + 1 + 1 + 1) o (by omega); have hj2x3 := fun o => hf2 (w.heap.size + 1 + 1 + 1) o (by omega); have hq2x3 : w.heap.size + 1 + 1 + 1 < w2.heap.size := (by omega); clear hc2 hf2); (try go_wp2_with fail); refine hK.out _ _ ?_ (fun hHeld => ?_); (focus ((try dsimp only); (first | (go_simp; done) | (go_keep; done)))); clear hK K; (try simp only [Act.put, List.setIfInBounds_toArray, List.set_cons_zero, List.set_cons_succ]))
    (refine wpAnyH_ready (rs := [4]) (by kernel_rfl) (by simp) ?_; refine AllReadyH.cons (o := { dst := some 31, op := Go.Op.call { callee := Go.Callee.value (Go.Operand.func 93), args := #[Go.Operand.tmp 30], argTypes := #[47] }, type := 3, pos := "l5_touch.go:11", after := #[{ on := 3, ground := Go.Ground.data }, { on := 1, ground := Go.Ground.chain }], guard := none }) rfl (fun K hK => ?_) AllReadyH.nil; go_simp; (go_at_call 93; refine (slen_q _ _ _ _ eL).mono ?_; rintro e w3 ⟨rfl, hb3⟩; obtain ⟨hc3, hf3⟩ := bcell hb3; have hz3 := hb3.size; (try simp only [World.size_drew, World.size_alloc, World.size_setCell] at hc3 hf3 hz3); have hk3x0 := fun o => hc3 (w.heap.size) o (by omega); have hj3x0 := fun o => hf3 (w.heap.size) o (by omega); have hq3x0 : w.heap.size < w3.heap.size := (by omega); have hk3x1 := fun o => hc3 (w.heap.size + 1) o (by omega); have hj3x1 := fun o => hf3 (w.heap.size + 1) o (by omega); have hq3x1 : w.heap.size + 1 < w3.heap.size := (by omega); have hk3x2 := fun o => hc3 (w.heap.size + 1 + 1) o (by omega); have hj3x2 := fun o => hf3 (w.heap.size + 1 + 1) o (by omega); have hq3x2 : w.heap.size + 1 + 1 < w3.heap.size := (by omega); have hk3x3 := fun o => hc3 (w.heap.size + 1 + 1 + 1) o (by omega); have hj3x3 := fun o => hf3 (w.heap.size + 1 + 1 + 1) o (by omega); have hq3x3 : w.heap.size + 1 + 1 + 1 < w3.heap.size := (by omega); clear hc3 hf3); (try go_wp2_with fail); refine hK.out _ _ ?_ (fun hHeld => ?_); (focus ((try dsimp only); (first | (go_simp; done) | (go_keep; done)))); clear hK K; (try simp only [Act.put, List.setIfInBounds_toArray, List.set_cons_zero, List.set_cons_succ]))
    (refine wpAnyH_take (i := 5) (oi := { dst := some 32, op := Go.Op.binOp Go.BinOp.sub 3 (Go.Operand.tmp 29) (Go.Operand.tmp 31) 3, type := 3, pos := "l5_touch.go:11", after := #[{ on := 2, ground := Go.Ground.data }, { on := 4, ground := Go.Ground.data }], guard := none }) (v := ?_) rfl (by kernel_rfl) (by kernel_rfl) (by kernel_rfl) (fun _ _ _ h => h) (Or.inl ⟨by rfl, ?_⟩) hHeld ?_; rotate_left; (focus ((intro w hSw; (try dsimp only at hSw); go_simp); (try with_reducible rfl); done)); (try simp only [Act.put, List.setIfInBounds_toArray, List.set_cons_zero, List.set_cons_succ]))
    (refine wpAnyH_take (i := 6) (oi := { dst := some 33, op := Go.Op.build 61 #[(0, Go.Operand.tmp 28), (1, Go.Operand.tmp 32)], type := 61, pos := "l5_touch.go:11", after := #[{ on := 1, ground := Go.Ground.data }, { on := 5, ground := Go.Ground.data }], guard := none }) (v := ?_) rfl (by kernel_rfl) (by kernel_rfl) (by kernel_rfl) (fun _ _ _ h => h) (Or.inl ⟨by rfl, ?_⟩) hHeld ?_; rotate_left; (focus ((intro w hSw; (try dsimp only at hSw); go_simp); (try with_reducible rfl); done)); (try simp only [Act.put, List.setIfInBounds_toArray, List.set_cons_zero, List.set_cons_succ]))
    (refine wpAnyH_ready (rs := [7]) (by kernel_rfl) (by simp) ?_; refine AllReadyH.cons (o := { dst := none, op := Go.Op.store 61 (Go.Operand.tmp 6) (Go.Operand.tmp 33), type := 0, pos := "l5_touch.go:11", after := #[{ on := 6, ground := Go.Ground.data }, { on := 4, ground := Go.Ground.chain }, { on := 0, ground := Go.Ground.phase }, { on := 1, ground := Go.Ground.phase }, { on := 2, ground := Go.Ground.phase }, { on := 3, ground := Go.Ground.phase }, { on := 4, ground := Go.Ground.phase }, { on := 5, ground := Go.Ground.phase }, { on := 6, ground := Go.Ground.phase }], guard := none }) rfl (fun K hK => ?_) AllReadyH.nil; go_simp; refine hK.out _ _ ?_ (fun hHeld => ?_); (focus ((try dsimp only); (first | (go_simp; done) | (go_keep; done)))); clear hK K; (try simp only [Act.put, List.setIfInBounds_toArray, List.set_cons_zero, List.set_cons_succ]))
    (refine wpAnyH_take (i := 8) (oi := { dst := some 7, op := Go.Op.assign (Go.Operand.const (Go.Value.bool true)), type := 4, pos := "l5_touch.go:11", after := #[{ on := 7, ground := Go.Ground.chain }, { on := 0, ground := Go.Ground.phase }, { on := 1, ground := Go.Ground.phase }, { on := 2, ground := Go.Ground.phase }, { on := 3, ground := Go.Ground.phase }, { on := 4, ground := Go.Ground.phase }, { on := 5, ground := Go.Ground.phase }, { on := 6, ground := Go.Ground.phase }, { on := 7, ground := Go.Ground.phase }], guard := none }) (v := ?_) rfl (by kernel_rfl) (by kernel_rfl) (by kernel_rfl) (fun _ _ _ h => h) (Or.inl ⟨by rfl, ?_⟩) hHeld ?_; rotate_left; (focus ((intro w hSw; (try dsimp only at hSw); go_simp); (try with_reducible rfl); done)); (try simp only [Act.put, List.setIfInBounds_toArray, List.set_cons_zero, List.set_cons_succ]))
    refine wpAnyH_done (by kernel_rfl) ?_ _
    go_wp2_with fail
    exact bodyPost_ret (v := .tuple #[s3 X Y (g - L), .bool true]) (by simp [results, Tryz.results69, go_sem, *]) rfl ⟨rfl, by repeat (first | with_reducible apply Below.refl | (with_reducible apply Below.setCell; rotate_left; focus (first | omega | (simp; done) | (simp; omega))) | (with_reducible apply Below.alloc; rotate_left; focus (first | omega | (simp; done) | (simp; omega))) | with_reducible apply Below.drew | with_reducible apply belowDrewN | (with_reducible apply Below.trans; rotate_left; with_reducible apply Below.mono; with_reducible assumption; focus (first | omega | (simp; done) | (simp; omega))))⟩

theorem smeets_q (a b c d r s t u : Int) (z : Bool) (w : World) (e : (leB a b t u && leB r s c d) = z) :
    Calls Tryz.prog 94 #[b4 a b c d, b4 r s t u] w fun e w' => e = .returned (.bool z) ∧ Below w.heap.size w w' := by
  subst e; exact l3Meets_any a b c d r s t u w
set_option maxHeartbeats 8000000 in
theorem l5Boxes_q (a b c d r s t u X Y D : Int) (K : Bool) (w : World) (qa : -3000000 ≤ a ∧ a ≤ 3000000) (qb : -3000000 ≤ b ∧ b ≤ 3000000) (qc : -3000000 ≤ c ∧ c ≤ 3000000) (qd : -3000000 ≤ d ∧ d ≤ 3000000) (qr : -3000000 ≤ r ∧ r ≤ 3000000) (qs : -3000000 ≤ s ∧ s ≤ 3000000) (qt : -3000000 ≤ t ∧ t ≤ 3000000) (qu : -3000000 ≤ u ∧ u ≤ 3000000) (e : bxT a b c d r s t u = ((X, Y, D), K)) :
    Calls Tryz.prog 70 #[b4 a b c d, b4 r s t u] w fun e w' => e = .returned (.tuple #[s3 X Y D, .bool K]) ∧ Below w.heap.size w w' := by
  have hset := cset_map
  unfold bxT at e
  cases eM : (leB a b t u && leB r s c d) with
  | false =>
    rw [if_neg (by simp [eM])] at e
    cases e
    go_enter Tryz.func70, Tryz.ntmps70
    go_wp2_with (go_at_call 94; refine (smeets_q _ _ _ _ _ _ _ _ _ _ eM).mono ?_; rintro e w1 ⟨rfl, hb1⟩; obtain ⟨hc1, hf1⟩ := bcell hb1; have hz1 := hb1.size; (try simp only [World.size_drew, World.size_alloc, World.size_setCell] at hc1 hf1 hz1); have hk1x0 := fun o => hc1 (w.heap.size) o (by omega); have hj1x0 := fun o => hf1 (w.heap.size) o (by omega); have hq1x0 : w.heap.size < w1.heap.size := (by omega); have hk1x1 := fun o => hc1 (w.heap.size + 1) o (by omega); have hj1x1 := fun o => hf1 (w.heap.size + 1) o (by omega); have hq1x1 : w.heap.size + 1 < w1.heap.size := (by omega); have hk1x2 := fun o => hc1 (w.heap.size + 1 + 1) o (by omega); have hj1x2 := fun o => hf1 (w.heap.size + 1 + 1) o (by omega); have hq1x2 : w.heap.size + 1 + 1 < w1.heap.size := (by omega); clear hc1 hf1)
    exact bodyPost_ret (v := .tuple #[s3 0 0 0, .bool false]) (by simp [results, Tryz.results70, go_sem, *]) rfl ⟨rfl, by repeat (first | with_reducible apply Below.refl | (with_reducible apply Below.setCell; rotate_left; focus (first | omega | (simp; done) | (simp; omega))) | (with_reducible apply Below.alloc; rotate_left; focus (first | omega | (simp; done) | (simp; omega))) | with_reducible apply Below.drew | with_reducible apply belowDrewN | (with_reducible apply Below.trans; rotate_left; with_reducible apply Below.mono; with_reducible assumption; focus (first | omega | (simp; done) | (simp; omega))))⟩
  | true =>
    rw [if_pos eM] at e
    obtain ⟨s0, es0⟩ : ∃ z, c - r = z := ⟨_, rfl⟩
    have ws0 := i64w (n := c - r) (by omega)
    rw [es0] at e ws0
    obtain ⟨s1, es1⟩ : ∃ z, t - a = z := ⟨_, rfl⟩
    have ws1 := i64w (n := t - a) (by omega)
    rw [es1] at e ws1
    obtain ⟨s2, es2⟩ : ∃ z, d - s = z := ⟨_, rfl⟩
    have ws2 := i64w (n := d - s) (by omega)
    rw [es2] at e ws2
    obtain ⟨s3', es3'⟩ : ∃ z, u - b = z := ⟨_, rfl⟩
    have ws3' := i64w (n := u - b) (by omega)
    rw [es3'] at e ws3'
    unfold bsT at e
    cases d1 : decide (s1 < s0) with
    | true =>
      simp only [if_pos (of_decide_eq_true d1)] at e
      cases d2 : decide (s2 < s1) with
      | true =>
        simp only [if_pos (of_decide_eq_true d2)] at e
        cases d3 : decide (s3' < s2) with
        | true =>
          simp only [if_pos (of_decide_eq_true d3)] at e
          simp only [Prod.mk.injEq] at e
          obtain ⟨⟨eX, eY, eD⟩, eK⟩ := e
          subst eX
          subst eY
          subst eD
          subst eK
          go_enter Tryz.func70, Tryz.ntmps70
          go_wp2_with (go_at_call 94; refine (smeets_q _ _ _ _ _ _ _ _ _ _ eM).mono ?_; rintro e w1 ⟨rfl, hb1⟩; obtain ⟨hc1, hf1⟩ := bcell hb1; have hz1 := hb1.size; (try simp only [World.size_drew, World.size_alloc, World.size_setCell] at hc1 hf1 hz1); have hk1x0 := fun o => hc1 (w.heap.size) o (by omega); have hj1x0 := fun o => hf1 (w.heap.size) o (by omega); have hq1x0 : w.heap.size < w1.heap.size := (by omega); have hk1x1 := fun o => hc1 (w.heap.size + 1) o (by omega); have hj1x1 := fun o => hf1 (w.heap.size + 1) o (by omega); have hq1x1 : w.heap.size + 1 < w1.heap.size := (by omega); have hk1x2 := fun o => hc1 (w.heap.size + 1 + 1) o (by omega); have hj1x2 := fun o => hf1 (w.heap.size + 1 + 1) o (by omega); have hq1x2 : w.heap.size + 1 + 1 < w1.heap.size := (by omega); clear hc1 hf1)
          exact bodyPost_ret (v := .tuple #[s3 0 (-256) s3', .bool true]) (by simp [results, Tryz.results70, go_sem, *]) rfl ⟨rfl, by repeat (first | with_reducible apply Below.refl | (with_reducible apply Below.setCell; rotate_left; focus (first | omega | (simp; done) | (simp; omega))) | (with_reducible apply Below.alloc; rotate_left; focus (first | omega | (simp; done) | (simp; omega))) | with_reducible apply Below.drew | with_reducible apply belowDrewN | (with_reducible apply Below.trans; rotate_left; with_reducible apply Below.mono; with_reducible assumption; focus (first | omega | (simp; done) | (simp; omega))))⟩
        | false =>
          simp only [if_neg (of_decide_eq_false d3)] at e
          simp only [Prod.mk.injEq] at e
          obtain ⟨⟨eX, eY, eD⟩, eK⟩ := e
          subst eX
          subst eY
          subst eD
          subst eK
          go_enter Tryz.func70, Tryz.ntmps70
          go_wp2_with (go_at_call 94; refine (smeets_q _ _ _ _ _ _ _ _ _ _ eM).mono ?_; rintro e w1 ⟨rfl, hb1⟩; obtain ⟨hc1, hf1⟩ := bcell hb1; have hz1 := hb1.size; (try simp only [World.size_drew, World.size_alloc, World.size_setCell] at hc1 hf1 hz1); have hk1x0 := fun o => hc1 (w.heap.size) o (by omega); have hj1x0 := fun o => hf1 (w.heap.size) o (by omega); have hq1x0 : w.heap.size < w1.heap.size := (by omega); have hk1x1 := fun o => hc1 (w.heap.size + 1) o (by omega); have hj1x1 := fun o => hf1 (w.heap.size + 1) o (by omega); have hq1x1 : w.heap.size + 1 < w1.heap.size := (by omega); have hk1x2 := fun o => hc1 (w.heap.size + 1 + 1) o (by omega); have hj1x2 := fun o => hf1 (w.heap.size + 1 + 1) o (by omega); have hq1x2 : w.heap.size + 1 + 1 < w1.heap.size := (by omega); clear hc1 hf1)
          exact bodyPost_ret (v := .tuple #[s3 0 256 s2, .bool true]) (by simp [results, Tryz.results70, go_sem, *]) rfl ⟨rfl, by repeat (first | with_reducible apply Below.refl | (with_reducible apply Below.setCell; rotate_left; focus (first | omega | (simp; done) | (simp; omega))) | (with_reducible apply Below.alloc; rotate_left; focus (first | omega | (simp; done) | (simp; omega))) | with_reducible apply Below.drew | with_reducible apply belowDrewN | (with_reducible apply Below.trans; rotate_left; with_reducible apply Below.mono; with_reducible assumption; focus (first | omega | (simp; done) | (simp; omega))))⟩
      | false =>
        simp only [if_neg (of_decide_eq_false d2)] at e
        cases d3 : decide (s3' < s1) with
        | true =>
          simp only [if_pos (of_decide_eq_true d3)] at e
          simp only [Prod.mk.injEq] at e
          obtain ⟨⟨eX, eY, eD⟩, eK⟩ := e
          subst eX
          subst eY
          subst eD
          subst eK
          go_enter Tryz.func70, Tryz.ntmps70
          go_wp2_with (go_at_call 94; refine (smeets_q _ _ _ _ _ _ _ _ _ _ eM).mono ?_; rintro e w1 ⟨rfl, hb1⟩; obtain ⟨hc1, hf1⟩ := bcell hb1; have hz1 := hb1.size; (try simp only [World.size_drew, World.size_alloc, World.size_setCell] at hc1 hf1 hz1); have hk1x0 := fun o => hc1 (w.heap.size) o (by omega); have hj1x0 := fun o => hf1 (w.heap.size) o (by omega); have hq1x0 : w.heap.size < w1.heap.size := (by omega); have hk1x1 := fun o => hc1 (w.heap.size + 1) o (by omega); have hj1x1 := fun o => hf1 (w.heap.size + 1) o (by omega); have hq1x1 : w.heap.size + 1 < w1.heap.size := (by omega); have hk1x2 := fun o => hc1 (w.heap.size + 1 + 1) o (by omega); have hj1x2 := fun o => hf1 (w.heap.size + 1 + 1) o (by omega); have hq1x2 : w.heap.size + 1 + 1 < w1.heap.size := (by omega); clear hc1 hf1)
          exact bodyPost_ret (v := .tuple #[s3 0 (-256) s3', .bool true]) (by simp [results, Tryz.results70, go_sem, *]) rfl ⟨rfl, by repeat (first | with_reducible apply Below.refl | (with_reducible apply Below.setCell; rotate_left; focus (first | omega | (simp; done) | (simp; omega))) | (with_reducible apply Below.alloc; rotate_left; focus (first | omega | (simp; done) | (simp; omega))) | with_reducible apply Below.drew | with_reducible apply belowDrewN | (with_reducible apply Below.trans; rotate_left; with_reducible apply Below.mono; with_reducible assumption; focus (first | omega | (simp; done) | (simp; omega))))⟩
        | false =>
          simp only [if_neg (of_decide_eq_false d3)] at e
          simp only [Prod.mk.injEq] at e
          obtain ⟨⟨eX, eY, eD⟩, eK⟩ := e
          subst eX
          subst eY
          subst eD
          subst eK
          go_enter Tryz.func70, Tryz.ntmps70
          go_wp2_with (go_at_call 94; refine (smeets_q _ _ _ _ _ _ _ _ _ _ eM).mono ?_; rintro e w1 ⟨rfl, hb1⟩; obtain ⟨hc1, hf1⟩ := bcell hb1; have hz1 := hb1.size; (try simp only [World.size_drew, World.size_alloc, World.size_setCell] at hc1 hf1 hz1); have hk1x0 := fun o => hc1 (w.heap.size) o (by omega); have hj1x0 := fun o => hf1 (w.heap.size) o (by omega); have hq1x0 : w.heap.size < w1.heap.size := (by omega); have hk1x1 := fun o => hc1 (w.heap.size + 1) o (by omega); have hj1x1 := fun o => hf1 (w.heap.size + 1) o (by omega); have hq1x1 : w.heap.size + 1 < w1.heap.size := (by omega); have hk1x2 := fun o => hc1 (w.heap.size + 1 + 1) o (by omega); have hj1x2 := fun o => hf1 (w.heap.size + 1 + 1) o (by omega); have hq1x2 : w.heap.size + 1 + 1 < w1.heap.size := (by omega); clear hc1 hf1)
          exact bodyPost_ret (v := .tuple #[s3 (-256) 0 s1, .bool true]) (by simp [results, Tryz.results70, go_sem, *]) rfl ⟨rfl, by repeat (first | with_reducible apply Below.refl | (with_reducible apply Below.setCell; rotate_left; focus (first | omega | (simp; done) | (simp; omega))) | (with_reducible apply Below.alloc; rotate_left; focus (first | omega | (simp; done) | (simp; omega))) | with_reducible apply Below.drew | with_reducible apply belowDrewN | (with_reducible apply Below.trans; rotate_left; with_reducible apply Below.mono; with_reducible assumption; focus (first | omega | (simp; done) | (simp; omega))))⟩
    | false =>
      simp only [if_neg (of_decide_eq_false d1)] at e
      cases d2 : decide (s2 < s0) with
      | true =>
        simp only [if_pos (of_decide_eq_true d2)] at e
        cases d3 : decide (s3' < s2) with
        | true =>
          simp only [if_pos (of_decide_eq_true d3)] at e
          simp only [Prod.mk.injEq] at e
          obtain ⟨⟨eX, eY, eD⟩, eK⟩ := e
          subst eX
          subst eY
          subst eD
          subst eK
          go_enter Tryz.func70, Tryz.ntmps70
          go_wp2_with (go_at_call 94; refine (smeets_q _ _ _ _ _ _ _ _ _ _ eM).mono ?_; rintro e w1 ⟨rfl, hb1⟩; obtain ⟨hc1, hf1⟩ := bcell hb1; have hz1 := hb1.size; (try simp only [World.size_drew, World.size_alloc, World.size_setCell] at hc1 hf1 hz1); have hk1x0 := fun o => hc1 (w.heap.size) o (by omega); have hj1x0 := fun o => hf1 (w.heap.size) o (by omega); have hq1x0 : w.heap.size < w1.heap.size := (by omega); have hk1x1 := fun o => hc1 (w.heap.size + 1) o (by omega); have hj1x1 := fun o => hf1 (w.heap.size + 1) o (by omega); have hq1x1 : w.heap.size + 1 < w1.heap.size := (by omega); have hk1x2 := fun o => hc1 (w.heap.size + 1 + 1) o (by omega); have hj1x2 := fun o => hf1 (w.heap.size + 1 + 1) o (by omega); have hq1x2 : w.heap.size + 1 + 1 < w1.heap.size := (by omega); clear hc1 hf1)
          exact bodyPost_ret (v := .tuple #[s3 0 (-256) s3', .bool true]) (by simp [results, Tryz.results70, go_sem, *]) rfl ⟨rfl, by repeat (first | with_reducible apply Below.refl | (with_reducible apply Below.setCell; rotate_left; focus (first | omega | (simp; done) | (simp; omega))) | (with_reducible apply Below.alloc; rotate_left; focus (first | omega | (simp; done) | (simp; omega))) | with_reducible apply Below.drew | with_reducible apply belowDrewN | (with_reducible apply Below.trans; rotate_left; with_reducible apply Below.mono; with_reducible assumption; focus (first | omega | (simp; done) | (simp; omega))))⟩
        | false =>
          simp only [if_neg (of_decide_eq_false d3)] at e
          simp only [Prod.mk.injEq] at e
          obtain ⟨⟨eX, eY, eD⟩, eK⟩ := e
          subst eX
          subst eY
          subst eD
          subst eK
          go_enter Tryz.func70, Tryz.ntmps70
          go_wp2_with (go_at_call 94; refine (smeets_q _ _ _ _ _ _ _ _ _ _ eM).mono ?_; rintro e w1 ⟨rfl, hb1⟩; obtain ⟨hc1, hf1⟩ := bcell hb1; have hz1 := hb1.size; (try simp only [World.size_drew, World.size_alloc, World.size_setCell] at hc1 hf1 hz1); have hk1x0 := fun o => hc1 (w.heap.size) o (by omega); have hj1x0 := fun o => hf1 (w.heap.size) o (by omega); have hq1x0 : w.heap.size < w1.heap.size := (by omega); have hk1x1 := fun o => hc1 (w.heap.size + 1) o (by omega); have hj1x1 := fun o => hf1 (w.heap.size + 1) o (by omega); have hq1x1 : w.heap.size + 1 < w1.heap.size := (by omega); have hk1x2 := fun o => hc1 (w.heap.size + 1 + 1) o (by omega); have hj1x2 := fun o => hf1 (w.heap.size + 1 + 1) o (by omega); have hq1x2 : w.heap.size + 1 + 1 < w1.heap.size := (by omega); clear hc1 hf1)
          exact bodyPost_ret (v := .tuple #[s3 0 256 s2, .bool true]) (by simp [results, Tryz.results70, go_sem, *]) rfl ⟨rfl, by repeat (first | with_reducible apply Below.refl | (with_reducible apply Below.setCell; rotate_left; focus (first | omega | (simp; done) | (simp; omega))) | (with_reducible apply Below.alloc; rotate_left; focus (first | omega | (simp; done) | (simp; omega))) | with_reducible apply Below.drew | with_reducible apply belowDrewN | (with_reducible apply Below.trans; rotate_left; with_reducible apply Below.mono; with_reducible assumption; focus (first | omega | (simp; done) | (simp; omega))))⟩
      | false =>
        simp only [if_neg (of_decide_eq_false d2)] at e
        cases d3 : decide (s3' < s0) with
        | true =>
          simp only [if_pos (of_decide_eq_true d3)] at e
          simp only [Prod.mk.injEq] at e
          obtain ⟨⟨eX, eY, eD⟩, eK⟩ := e
          subst eX
          subst eY
          subst eD
          subst eK
          go_enter Tryz.func70, Tryz.ntmps70
          go_wp2_with (go_at_call 94; refine (smeets_q _ _ _ _ _ _ _ _ _ _ eM).mono ?_; rintro e w1 ⟨rfl, hb1⟩; obtain ⟨hc1, hf1⟩ := bcell hb1; have hz1 := hb1.size; (try simp only [World.size_drew, World.size_alloc, World.size_setCell] at hc1 hf1 hz1); have hk1x0 := fun o => hc1 (w.heap.size) o (by omega); have hj1x0 := fun o => hf1 (w.heap.size) o (by omega); have hq1x0 : w.heap.size < w1.heap.size := (by omega); have hk1x1 := fun o => hc1 (w.heap.size + 1) o (by omega); have hj1x1 := fun o => hf1 (w.heap.size + 1) o (by omega); have hq1x1 : w.heap.size + 1 < w1.heap.size := (by omega); have hk1x2 := fun o => hc1 (w.heap.size + 1 + 1) o (by omega); have hj1x2 := fun o => hf1 (w.heap.size + 1 + 1) o (by omega); have hq1x2 : w.heap.size + 1 + 1 < w1.heap.size := (by omega); clear hc1 hf1)
          exact bodyPost_ret (v := .tuple #[s3 0 (-256) s3', .bool true]) (by simp [results, Tryz.results70, go_sem, *]) rfl ⟨rfl, by repeat (first | with_reducible apply Below.refl | (with_reducible apply Below.setCell; rotate_left; focus (first | omega | (simp; done) | (simp; omega))) | (with_reducible apply Below.alloc; rotate_left; focus (first | omega | (simp; done) | (simp; omega))) | with_reducible apply Below.drew | with_reducible apply belowDrewN | (with_reducible apply Below.trans; rotate_left; with_reducible apply Below.mono; with_reducible assumption; focus (first | omega | (simp; done) | (simp; omega))))⟩
        | false =>
          simp only [if_neg (of_decide_eq_false d3)] at e
          simp only [Prod.mk.injEq] at e
          obtain ⟨⟨eX, eY, eD⟩, eK⟩ := e
          subst eX
          subst eY
          subst eD
          subst eK
          go_enter Tryz.func70, Tryz.ntmps70
          go_wp2_with (go_at_call 94; refine (smeets_q _ _ _ _ _ _ _ _ _ _ eM).mono ?_; rintro e w1 ⟨rfl, hb1⟩; obtain ⟨hc1, hf1⟩ := bcell hb1; have hz1 := hb1.size; (try simp only [World.size_drew, World.size_alloc, World.size_setCell] at hc1 hf1 hz1); have hk1x0 := fun o => hc1 (w.heap.size) o (by omega); have hj1x0 := fun o => hf1 (w.heap.size) o (by omega); have hq1x0 : w.heap.size < w1.heap.size := (by omega); have hk1x1 := fun o => hc1 (w.heap.size + 1) o (by omega); have hj1x1 := fun o => hf1 (w.heap.size + 1) o (by omega); have hq1x1 : w.heap.size + 1 < w1.heap.size := (by omega); have hk1x2 := fun o => hc1 (w.heap.size + 1 + 1) o (by omega); have hj1x2 := fun o => hf1 (w.heap.size + 1 + 1) o (by omega); have hq1x2 : w.heap.size + 1 + 1 < w1.heap.size := (by omega); clear hc1 hf1)
          exact bodyPost_ret (v := .tuple #[s3 256 0 s0, .bool true]) (by simp [results, Tryz.results70, go_sem, *]) rfl ⟨rfl, by repeat (first | with_reducible apply Below.refl | (with_reducible apply Below.setCell; rotate_left; focus (first | omega | (simp; done) | (simp; omega))) | (with_reducible apply Below.alloc; rotate_left; focus (first | omega | (simp; done) | (simp; omega))) | with_reducible apply Below.drew | with_reducible apply belowDrewN | (with_reducible apply Below.trans; rotate_left; with_reducible apply Below.mono; with_reducible assumption; focus (first | omega | (simp; done) | (simp; omega))))⟩
end Go.Proofs.YtceabgnioncneaaGreat
